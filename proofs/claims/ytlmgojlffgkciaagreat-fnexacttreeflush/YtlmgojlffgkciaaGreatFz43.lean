/-
  The program's flush: what it makes of a tree, by a walk of its Go text.
  What the document's l4Run answers, by a walk of its Go text.
-/
import Derived.Test.YtlmgojlffgkciaaGreatFz38
import Derived.Test.YtlmgojlffgkciaaGreatFz42
import Derived.Test.YtlmgojlffgkciaaGreatFz30
import Derived.Test.YtlmgojlffgkciaaGreatFz19
namespace Go.Proofs.YtlmgojlffgkciaaGreat
open Go.RowKit
set_option maxRecDepth 100000
set_option maxHeartbeats 8000000
theorem implFlush (q : Int) (am : Option Addr) (nm cm a0 o0 n0 c0 : Nat) (a1 : Option Addr) (n1 c1 : Nat) (a2 : Option Addr) (n2 c2 : Nat) (ak : Option Addr) (nk ck : Nat) (M : List EntD) (A B C : List RunD) (S : List Int) (w : World) (hSh : ShIn w am nm cm (some ⟨a0, o0, none⟩) n0 c0 a1 n1 c1 a2 n2 c2 ak nk ck M A B C S) (hnm : nm ≤ 1048576) (hnk : nk ≤ 1048576) (hn0 : n0 ≤ 1000) :
    Calls Tryz.prog 63 #[.agg #[.int .i64 q, .slice am nm cm, .slice (some ⟨a0, o0, none⟩) n0 c0, .slice a1 n1 c1, .slice a2 n2 c2, .slice ak nk ck]] w fun e w' => ∃ a5 c5, e = .returned (.tuple #[.agg #[.int .i64 q, .slice none 0 0, .slice a5 (n0 + 1) c5, .slice a1 n1 c1, .slice a2 n2 c2, .slice ak nk ck], .bool (ofB (squashL M S false) && decide (n0 + 1 ≤ 4))]) ∧ RunsIn 0 w' a5 (n0 + 1) c5 (A ++ [(ofL (squashL M S false), ofM (squashL M S false))]) ∧ Below w.heap.size w w' := by
  obtain ⟨X, hX⟩ : ∃ X, X = w.heap.size := ⟨_, rfl⟩
  obtain ⟨W, hW⟩ : ∃ W, W = (w.alloc (.cells #[.int .i64 q, .slice am nm cm, .slice (some ⟨a0, o0, none⟩) n0 c0, .slice a1 n1 c1, .slice a2 n2 c2, .slice ak nk ck] 67)).alloc (.cells #[.int .i64 0, .slice none 0 0, .slice none 0 0, .slice none 0 0, .slice none 0 0, .slice none 0 0] 67) := ⟨_, rfl⟩
  have kW : Below w.heap.size w W := by rw [hW]; exact ((Below.refl _ _).alloc (Nat.le_refl _) _).alloc (by simp) _
  have bx : Box6 W X (.int .i64 q) (.slice am nm cm) (.slice (some ⟨a0, o0, none⟩) n0 c0) (.slice a1 n1 c1) (.slice a2 n2 c2) (.slice ak nk ck) := by rw [hW, hX]; exact (Box6.new _ _ _ _ _ _ _ _).alloc _
  have br : Box6 W (X + 1) (.int .i64 0) (.slice none 0 0) (.slice none 0 0) (.slice none 0 0) (.slice none 0 0) (.slice none 0 0) := by
    have := Box6.new (w.alloc (.cells #[.int .i64 q, .slice am nm cm, .slice (some ⟨a0, o0, none⟩) n0 c0, .slice a1 n1 c1, .slice a2 n2 c2, .slice ak nk ck] 67)) 67 (.int .i64 0) (.slice none 0 0) (.slice none 0 0) (.slice none 0 0) (.slice none 0 0) (.slice none 0 0)
    rw [World.size_alloc] at this
    rw [hW, hX]
    exact this
  have HX : Hid (X = w.heap.size) := hX
  have HSZ : Hid (W.heap.size = X + 1 + 1) := by show _ = _; rw [hW, hX]; simp
  have K0 : Hid (Below w.heap.size w W) := kW
  obtain ⟨xsA, hdA0, hrA0⟩ := hSh.r0.raw
  have HDA : Hid (DenP (· < w.heap.size) w xsA A) := hdA0.denP
  have HRA : Hid (RawP w (.slice (some ⟨a0, o0, none⟩) n0 c0) n0 xsA) := hrA0
  obtain ⟨L, hL⟩ : ∃ L, L = squashL M S false := ⟨_, rfl⟩
  obtain ⟨FL, hFL⟩ : ∃ FL, FL = ofL L := ⟨_, rfl⟩
  obtain ⟨m, hm⟩ : ∃ m, m = ofM L := ⟨_, rfl⟩
  obtain ⟨okR, hok⟩ : ∃ okR, okR = ofB L := ⟨_, rfl⟩
  have HMW : Hid ((Lit.int .i64 m).wf = true) := by rw [hm]; exact ofM_wf L
  have CQ : Hid (Calls Tryz.prog 99 #[.slice am nm cm, .slice ak nk ck, .bool false] W fun e w' => ∃ ar n' c', e = .returned (.slice ar n' c') ∧ OwnO w' W.heap.size ar n' c' L ∧ Below W.heap.size W w') := by
    rw [hL]
    exact callsIn_wide.1 (implSquashO 0 am nm cm M ak nk ck S false W (hSh.mem.keep kW) (hSh.sn.keep kW) hnm hnk)
  have CR : Hid (∀ (base : Nat) (ar : Option Addr) (n' c' : Nat) (w' : World), OwnO w' base ar n' c' L → Calls Tryz.prog 98 #[.slice ar n' c'] w' (OfR FL m okR w')) := by
    rw [hFL, hm, hok]
    exact fun base ar n' c' w' h => implRunOfO base ar n' c' L w' h
  rw [← hL, ← hok, ← hFL, ← hm]
  clear hSh kW hdA0 hrA0 hL hFL hm hok
  have x0 := bx.c0
  have x1 := bx.c1
  have x2 := bx.c2
  have x3 := bx.c3
  have x4 := bx.c4
  have x5 := bx.c5
  have xf := bx.fz
  have xz := bx.lt
  go_enter Tryz.func63, Tryz.ntmps63
  go_wp2_with fail
  rw [← hX, ← hW]
  clear hX hW x0 x1 x2 x3 x4 x5 xf xz
  refine CQ.out.mono ?_
  rintro e w1 ⟨ar, n', c', rfl, hO1, hb1⟩
  have K1 : Hid (Below W.heap.size W w1) := hb1
  have HO1 : Hid (OwnO w1 W.heap.size ar n' c' L) := hO1
  clear hO1 hb1 CQ
  go_wp2_with fail
  refine (CR.out _ _ _ _ _ HO1.out).mono ?_
  rintro e w2 ⟨ag, ng, cg, rfl, hO2, hb2⟩
  have K2 : Hid (Below W.heap.size W w2) := K1.out.trans (hb2.mono K1.out.size)
  have HO2 : Hid (OwnO w2 W.heap.size ag ng cg FL) := hO2.mono K1.out.size
  obtain ⟨R, hR⟩ : ∃ R, R = w2.heap.size := ⟨_, rfl⟩
  obtain ⟨w3, hw3⟩ : ∃ w3, w3 = w2.alloc (.cells #[.slice ag ng cg, .int .i64 m] 102) := ⟨_, rfl⟩
  have k3 : Below w2.heap.size w2 w3 := by rw [hw3]; exact (Below.refl _ _).alloc (Nat.le_refl _) _
  have K3 : Hid (Below W.heap.size W w3) := K2.out.trans (k3.mono K2.out.size)
  have HO3 : Hid (OwnO w3 W.heap.size ag ng cg FL) := HO2.out.below k3
  have s0 : w3.cell? ⟨R, 0, none⟩ = some (.slice ag ng cg) := by rw [hw3, hR]; simp
  have s1 : w3.cell? ⟨R, 1, none⟩ = some (.int .i64 m) := by rw [hw3, hR]; simp
  have HRW : Hid (W.heap.size ≤ R) := by rw [hR]; exact K2.out.size
  clear hO2 hb2 k3 K1 HO1 HO2 K2
  have bx3 := bx.keep K3.out
  have br3 := br.keep K3.out
  clear bx br
  go_upto_region 2 with fail
  rw [← hw3]
  try rw [← hR]
  clear hw3 hR
  have x0 := bx3.c0
  have x1 := bx3.c1
  have x2 := bx3.c2
  have x3 := bx3.c3
  have x4 := bx3.c4
  have x5 := bx3.c5
  have xf := bx3.fz
  have xz := bx3.lt
  obtain ⟨w4, hw4⟩ : ∃ w4, w4 = w3.setCell ⟨X, 1, none⟩ (.slice none 0 0) := ⟨_, rfl⟩
  go_upto_region 3 with fail
  rw [← hw4]
  have hx := HX.out
  have hs := HSZ.out
  have hrw := HRW.out
  have bx4 : Box6 w4 X (.int .i64 q) (.slice none 0 0) (.slice (some ⟨a0, o0, none⟩) n0 c0) (.slice a1 n1 c1) (.slice a2 n2 c2) (.slice ak nk ck) := by rw [hw4]; exact bx3.set1 _
  have br4 : Box6 w4 (X + 1) (.int .i64 0) (.slice none 0 0) (.slice none 0 0) (.slice none 0 0) (.slice none 0 0) (.slice none 0 0) := by rw [hw4]; exact br3.other (by omega) _
  have kk4 : KeepO w.heap.size W.heap.size w3 w4 := by rw [hw4]; exact (setK _ X 1 _).mono (by omega) (by omega)
  have hsz4 : w4.heap.size = w3.heap.size := by rw [hw4]; simp [World.setCell]
  have K4 : Hid (Below w.heap.size w w4) := by rw [hw4]; exact (K0.out.trans (K3.out.mono K0.out.size)).setCell (p := ⟨X, 1, none⟩) (by show _ ≤ X; omega) _
  have s0 : w4.cell? ⟨R, 0, none⟩ = some (.slice ag ng cg) := by rw [hw4, World.cell?_setCell_other _ _ _ _ (fun e => by simp only [Addr.mk.injEq] at e; omega)]; exact s0
  have s1 : w4.cell? ⟨R, 1, none⟩ = some (.int .i64 m) := by rw [hw4, World.cell?_setCell_other _ _ _ _ (fun e => by simp only [Addr.mk.injEq] at e; omega)]; exact s1
  have HO4 : Hid (OwnO w4 W.heap.size ag ng cg FL) := ⟨HO3.out.nil, fun x e => by
    obtain ⟨g, rfl, h2⟩ := HO3.out.own x e
    exact ⟨g, rfl, kk4.own h2 (.inr h2.lt.1)⟩⟩
  have HW4 : Hid (W.heap.size ≤ w4.heap.size) := by show _ ≤ _; rw [hsz4]; exact K3.out.size
  have HDA4 : Hid (DenP (· < w.heap.size) w4 xsA A) := HDA.out.low K4.out
  have HRA4 : Hid (RawP w4 (.slice (some ⟨a0, o0, none⟩) n0 c0) n0 xsA) := HRA.out.keep K4.out
  clear hw4 x0 x1 x2 x3 x4 x5 xf xz bx3 br3 kk4 hsz4 HO3 K3 HDA HRA hx hs hrw
  obtain ⟨W5, hW5⟩ : ∃ W5, W5 = (w4.alloc (.cells #[.slice ag ng cg, .int .i64 m] 102)).alloc (.cells #[.slice (some ⟨a0, o0, none⟩) n0 c0, .slice (some ⟨w4.heap.size, 0, none⟩) 1 1] 64) := ⟨_, rfl⟩
  have ka : Below w4.heap.size w4 (w4.alloc (.cells #[.slice ag ng cg, .int .i64 m] 102)) := (Below.refl _ _).alloc (Nat.le_refl _) _
  have kb : Below (w4.alloc (.cells #[.slice ag ng cg, .int .i64 m] 102)).heap.size (w4.alloc (.cells #[.slice ag ng cg, .int .i64 m] 102)) W5 := by rw [hW5]; exact (Below.refl _ _).alloc (Nat.le_refl _) _
  have k5 : Below w4.heap.size w4 W5 := ka.trans (kb.mono ka.size)
  have hP : RPartsAt W5 (w4.heap.size + 1) [(n0, xsA), (1, [.slice ag ng cg, .int .i64 m])] := by
    have hc : ∀ j u, [Value.slice (some ⟨a0, o0, none⟩) n0 c0, Value.slice (some ⟨w4.heap.size, 0, none⟩) 1 1][j]? = some u → W5.cell? ⟨w4.heap.size + 1, j, none⟩ = some u := by
      intro j u hj
      have h1 := cell_two_new' (w4.alloc (.cells #[.slice ag ng cg, .int .i64 m] 102)) (.slice (some ⟨a0, o0, none⟩) n0 c0) (.slice (some ⟨w4.heap.size, 0, none⟩) 1 1) 64 j u hj
      rw [Go.WideShapes.add_plain, Nat.zero_add, World.size_alloc, ← hW5] at h1
      exact h1
    refine ⟨World.block_lt_of_cell? _ _ (hc 0 _ rfl), fun i n xs hS => ?_⟩
    match i, hS with
    | 0, hS => simp at hS; obtain ⟨rfl, rfl⟩ := hS; exact ⟨_, hc 0 _ rfl, HRA4.out.keep k5⟩
    | 1, hS =>
      simp at hS; obtain ⟨rfl, rfl⟩ := hS
      refine ⟨_, hc 1 _ rfl, rfl, ?_, .inr ⟨w4.heap.size, 0, 1, rfl, fun j u hu => ?_⟩⟩
      · intro u hu
        simp at hu
        rcases hu with rfl | rfl <;> rfl
      · have h1 := cell_two_new' w4 (.slice ag ng cg) (.int .i64 m) 102 j u hu
        rw [Go.WideShapes.add_plain] at h1
        exact cell_later kb h1
  have hsum : sumV [(n0, xsA), (1, [Value.slice ag ng cg, Value.int .i64 m])] = n0 + 1 := by simp [sumV]
  have hfl : flatV [(n0, xsA), (1, [Value.slice ag ng cg, Value.int .i64 m])] = xsA ++ [.slice ag ng cg, .int .i64 m] := by simp [flatV]
  have CN : Hid (Calls Tryz.prog 100 #[.slice (some ⟨w4.heap.size + 1, 0, none⟩) 2 2] W5 fun e w' => ∃ v, e = .returned v ∧ w'.ownsRow W5.heap.size 102 2 v (n0 + 1) (xsA ++ [.slice ag ng cg, .int .i64 m]) ∧ Below W5.heap.size W5 w') := by
    have h := concatRuns (w4.heap.size + 1) 2 _ W5 hP rfl (by omega) (by rw [hsum]; omega)
    rw [hsum, hfl] at h
    exact h
  have HK5 : Hid (Below w4.heap.size w4 W5) := k5
  clear hP hsum hfl ka kb k5
  have x0 := bx4.c0
  have x1 := bx4.c1
  have x2 := bx4.c2
  have x3 := bx4.c3
  have x4 := bx4.c4
  have x5 := bx4.c5
  have xf := bx4.fz
  have xz := bx4.lt
  have sz := World.block_lt_of_cell? _ _ s0
  simp only at sz
  go_wp2_with fail
  rw [← hW5]
  clear hW5 x0 x1 x2 x3 x4 x5 xf xz s0 s1 sz
  refine CN.out.mono ?_
  rintro e w5 ⟨v, rfl, hrow, hb5⟩
  have hx := HX.out
  have hs := HSZ.out
  have hkk5 : Below w4.heap.size w4 w5 := HK5.out.trans (hb5.mono HK5.out.size)
  have hden5 : DenP (fun b => b < w.heap.size ∨ W.heap.size ≤ b) w5 (xsA ++ [.slice ag ng cg, .int .i64 m]) (A ++ [(FL, m)]) :=
    ((HDA4.out.imp (fun b h => .inl h)).app (denP_own HMW.out HO4.out (fun b h => .inr h))).below hkk5
  obtain ⟨a5, c5, rfl, _⟩ := den_row hrow hden5.den
  have HROW : Hid (w5.ownsRow W5.heap.size 102 2 (.slice a5 (n0 + 1) c5) (n0 + 1) (xsA ++ [.slice ag ng cg, .int .i64 m])) := hrow
  have HDEN : Hid (DenP (fun b => b < w.heap.size ∨ W.heap.size ≤ b) w5 (xsA ++ [.slice ag ng cg, .int .i64 m]) (A ++ [(FL, m)])) := hden5
  have HW5 : Hid (W.heap.size ≤ W5.heap.size) := Nat.le_trans HW4.out HK5.out.size
  have HFIN0 : Hid (∀ w', KeepO w.heap.size W.heap.size w5 w' → RunsIn 0 w' a5 (n0 + 1) c5 (A ++ [(FL, m)])) := fun w' k => by
    have hd := HDEN.out.keepO k
    have hr : w'.ownsRow W5.heap.size 102 2 (.slice a5 (n0 + 1) c5) (n0 + 1) (xsA ++ [.slice ag ng cg, .int .i64 m]) := by
      rcases HROW.out.2 with ⟨h0, h1⟩ | ⟨g, cap, cur, h0, _⟩
      · cases h0
      · have e1 : a5 = some ⟨g, 0, none⟩ := by cases h0; rfl
        have hlt := (HROW.out.lt g (by rw [e1]; rfl)).1
        have hrow := HROW.out
        rw [e1] at hrow ⊢
        exact k.row hrow (.inr (Nat.le_trans HW5.out hlt))
    obtain ⟨a6, c6, h6, h7⟩ := den_row hr hd.den
    cases h6
    exact h7
  have bx5 := bx4.keep hkk5
  have br5 := br4.keep hkk5
  have K5 : Hid (Below w.heap.size w w5) := K4.out.trans (hkk5.mono K4.out.size)
  clear hrow hb5 hden5 hkk5 bx4 br4 HROW HDEN HW5 HO4 HDA4 HRA4 HK5 CN CR
  have x0 := bx5.c0
  have x1 := bx5.c1
  have x2 := bx5.c2
  have x3 := bx5.c3
  have x4 := bx5.c4
  have x5 := bx5.c5
  have xf := bx5.fz
  have xz := bx5.lt
  obtain ⟨w6, hw6⟩ : ∃ w6, w6 = w5.setCell ⟨X, 2, none⟩ (.slice a5 (n0 + 1) c5) := ⟨_, rfl⟩
  have bx6 : Box6 w6 X (.int .i64 q) (.slice none 0 0) (.slice a5 (n0 + 1) c5) (.slice a1 n1 c1) (.slice a2 n2 c2) (.slice ak nk ck) := by rw [hw6]; exact bx5.set2 _
  have R6 : Hid (Box6 w6.drew (X + 1) (.int .i64 0) (.slice none 0 0) (.slice none 0 0) (.slice none 0 0) (.slice none 0 0) (.slice none 0 0)) := by
    have h1 : Box6 w6 (X + 1) (.int .i64 0) (.slice none 0 0) (.slice none 0 0) (.slice none 0 0) (.slice none 0 0) (.slice none 0 0) := by rw [hw6]; exact br5.other (by omega) _
    exact h1.keep (Below.refl _ w6).drew
  have K6 : Hid (Below w.heap.size w w6.drew) := by rw [hw6]; exact (K5.out.setCell (p := ⟨X, 2, none⟩) (by show _ ≤ X; omega) _).drew
  have HFIN : Hid (∀ w', KeepO w.heap.size W.heap.size w6.drew w' → RunsIn 0 w' a5 (n0 + 1) c5 (A ++ [(FL, m)])) := fun w' k => HFIN0.out w' (by
    have h1 : KeepO w.heap.size W.heap.size w5 w6 := by rw [hw6]; exact (setK _ X 2 _).mono (by omega) (by omega)
    exact (h1.trans (KeepO.of_below (Below.refl _ w6).drew)).trans k)
  clear hx hs
  go_upto_region 4 with fail
  rw [← hw6]
  clear hw6 x0 x1 x2 x3 x4 x5 xf xz bx5 br5 HFIN0 K5
  have k0 : Box6 w6.drew X (.int .i64 q) (.slice none 0 0) (.slice a5 (n0 + 1) c5) (.slice a1 n1 c1) (.slice a2 n2 c2) (.slice ak nk ck) := bx6.keep (Below.refl _ w6).drew
  clear bx6
  have HMK : Hid (∀ w', Box6 w' X (.int .i64 q) (.slice none 0 0) (.slice a5 (n0 + 1) c5) (.slice a1 n1 c1) (.slice a2 n2 c2) (.slice ak nk ck) → (fun w' => w'.cell? ⟨X, 0, none⟩ = some (.int .i64 q) ∧ w'.cell? ⟨X, 1, none⟩ = some (.slice none 0 0) ∧ w'.cell? ⟨X, 2, none⟩ = some (.slice a5 (n0 + 1) c5) ∧ w'.cell? ⟨X, 3, none⟩ = some (.slice a1 n1 c1) ∧ w'.cell? ⟨X, 4, none⟩ = some (.slice a2 n2 c2) ∧ w'.cell? ⟨X, 5, none⟩ = some (.slice ak nk ck) ∧ X < w'.heap.size) w') := fun w' h => ⟨h.c0, h.c1, h.c2, h.c3, h.c4, h.c5, h.lt⟩
  cases okR with
  | false =>
      have HOK : Hid ((false && decide (n0 + 1 ≤ 4)) = false) := rfl
      refine wp_region_held_drew (S := (fun w' => w'.cell? ⟨X, 0, none⟩ = some (.int .i64 q) ∧ w'.cell? ⟨X, 1, none⟩ = some (.slice none 0 0) ∧ w'.cell? ⟨X, 2, none⟩ = some (.slice a5 (n0 + 1) c5) ∧ w'.cell? ⟨X, 3, none⟩ = some (.slice a1 n1 c1) ∧ w'.cell? ⟨X, 4, none⟩ = some (.slice a2 n2 c2) ∧ w'.cell? ⟨X, 5, none⟩ = some (.slice ak nk ck) ∧ X < w'.heap.size)) (by kernel_rfl) (HMK.out _ k0) (fun hHeld => ?_)
      generalize w6.drew = wd at k0 hHeld R6 K6 HFIN ⊢
      refine tkL 0 hHeld ?_; try go_frame
      refine tkL 1 hHeld ?_; try go_frame
      refine tkL 2 hHeld ?_; try go_frame
      refine tkN 3 hHeld ?_; try go_frame
      refine tkN 4 hHeld ?_; try go_frame
      refine tkN 5 hHeld ?_; try go_frame
      refine tkN 6 hHeld ?_; try go_frame
      refine tkN 7 hHeld ?_; try go_frame
      refine tkL 8 hHeld ?_; try go_frame
      refine wpAnyH_ready (rs := [9]) (by kernel_rfl) (by simp) ?_
      refine consL rfl (fun K hK => ?_) AllReadyH.nil
      have r0 := R6.out.c0
      have r1 := R6.out.c1
      have r2 := R6.out.c2
      have r3 := R6.out.c3
      have r4 := R6.out.c4
      have r5 := R6.out.c5
      have rf := R6.out.fz
      have rz := R6.out.lt
      have hxx : X + 1 ≠ X := by omega
      go_simp
      have k1 := ((((((k0.other (b' := X + 1) (o := 0) hxx (.int .i64 q)).other (b' := X + 1) (o := 1) hxx (.slice none 0 0)).other (b' := X + 1) (o := 2) hxx (.slice a5 (n0 + 1) c5)).other (b' := X + 1) (o := 3) hxx (.slice a1 n1 c1)).other (b' := X + 1) (o := 4) hxx (.slice a2 n2 c2)).other (b' := X + 1) (o := 5) hxx (.slice ak nk ck))
      refine hK.out _ _ (HMK.out _ k1) (fun hHeld => ?_)
      clear hK K
      try go_frame
      refine tkL 10 hHeld ?_; try go_frame
      refine wpAnyH_done (by kernel_rfl) ?_ _
      clear k1 hxx hHeld r0 r1 r2 r3 r4 r5 rf rz
      go_wp2
      refine bodyPost_ret (v := .tuple #[.agg #[.int .i64 q, .slice none 0 0, .slice a5 (n0 + 1) c5, .slice a1 n1 c1, .slice a2 n2 c2, .slice ak nk ck], .bool false]) ?_ rfl ⟨a5, c5, ?_, ?_, ?_⟩
      · have e := ((((((R6.out.set0 (.int .i64 q)).set1 (.slice none 0 0)).set2 (.slice a5 (n0 + 1) c5)).set3 (.slice a1 n1 c1)).set4 (.slice a2 n2 c2)).set5 (.slice ak nk ck))
        simp [results, Tryz.results63, go_sem, e.c0, e.c1, e.c2, e.c3, e.c4, e.c5]
      · first | rfl | rw [HOK.out]
      · have hs := HSZ.out
        have hx := HX.out
        have kk : KeepO w.heap.size W.heap.size wd _ := (((((((setK _ (X + 1) 0 (.int .i64 q)).mono (by omega) (by omega))).trans ((setK _ (X + 1) 1 (.slice none 0 0)).mono (by omega) (by omega))).trans ((setK _ (X + 1) 2 (.slice a5 (n0 + 1) c5)).mono (by omega) (by omega))).trans ((setK _ (X + 1) 3 (.slice a1 n1 c1)).mono (by omega) (by omega))).trans ((setK _ (X + 1) 4 (.slice a2 n2 c2)).mono (by omega) (by omega))).trans ((setK _ (X + 1) 5 (.slice ak nk ck)).mono (by omega) (by omega))
        exact HFIN.out _ kk
      · have hx : w.heap.size ≤ X + 1 := by have := HX.out; omega
        exact ((((((K6.out).setCell (p := ⟨X + 1, 0, none⟩) hx _).setCell (p := ⟨X + 1, 1, none⟩) hx _).setCell (p := ⟨X + 1, 2, none⟩) hx _).setCell (p := ⟨X + 1, 3, none⟩) hx _).setCell (p := ⟨X + 1, 4, none⟩) hx _).setCell (p := ⟨X + 1, 5, none⟩) hx _
  | true =>
    by_cases h4 : n0 + 1 ≤ 4
    · have HOK : Hid ((true && decide (n0 + 1 ≤ 4)) = true) := by show _ = _; simp; omega
      have h4I : (n0 : Int) + 1 ≤ 4 := by omega
      refine wp_region_held_drew (S := (fun w' => w'.cell? ⟨X, 0, none⟩ = some (.int .i64 q) ∧ w'.cell? ⟨X, 1, none⟩ = some (.slice none 0 0) ∧ w'.cell? ⟨X, 2, none⟩ = some (.slice a5 (n0 + 1) c5) ∧ w'.cell? ⟨X, 3, none⟩ = some (.slice a1 n1 c1) ∧ w'.cell? ⟨X, 4, none⟩ = some (.slice a2 n2 c2) ∧ w'.cell? ⟨X, 5, none⟩ = some (.slice ak nk ck) ∧ X < w'.heap.size)) (by kernel_rfl) (HMK.out _ k0) (fun hHeld => ?_)
      generalize w6.drew = wd at k0 hHeld R6 K6 HFIN ⊢
      refine tkL 0 hHeld ?_; try go_frame
      refine tkL 1 hHeld ?_; try go_frame
      refine tkL 2 hHeld ?_; try go_frame
      refine tkL 3 hHeld ?_; try go_frame
      refine tkL 4 hHeld ?_; try go_frame
      refine tkL 5 hHeld ?_; try go_frame
      refine tkL 6 hHeld ?_; try go_frame
      refine tkL 7 hHeld ?_; try go_frame
      refine tkL 8 hHeld ?_; try go_frame
      refine wpAnyH_ready (rs := [9]) (by kernel_rfl) (by simp) ?_
      refine consL rfl (fun K hK => ?_) AllReadyH.nil
      have r0 := R6.out.c0
      have r1 := R6.out.c1
      have r2 := R6.out.c2
      have r3 := R6.out.c3
      have r4 := R6.out.c4
      have r5 := R6.out.c5
      have rf := R6.out.fz
      have rz := R6.out.lt
      have hxx : X + 1 ≠ X := by omega
      go_simp
      have k1 := ((((((k0.other (b' := X + 1) (o := 0) hxx (.int .i64 q)).other (b' := X + 1) (o := 1) hxx (.slice none 0 0)).other (b' := X + 1) (o := 2) hxx (.slice a5 (n0 + 1) c5)).other (b' := X + 1) (o := 3) hxx (.slice a1 n1 c1)).other (b' := X + 1) (o := 4) hxx (.slice a2 n2 c2)).other (b' := X + 1) (o := 5) hxx (.slice ak nk ck))
      refine hK.out _ _ (HMK.out _ k1) (fun hHeld => ?_)
      clear hK K
      try go_frame
      refine tkL 10 hHeld ?_; try go_frame
      refine wpAnyH_done (by kernel_rfl) ?_ _
      clear k1 hxx hHeld r0 r1 r2 r3 r4 r5 rf rz
      go_wp2
      refine bodyPost_ret (v := .tuple #[.agg #[.int .i64 q, .slice none 0 0, .slice a5 (n0 + 1) c5, .slice a1 n1 c1, .slice a2 n2 c2, .slice ak nk ck], .bool true]) ?_ rfl ⟨a5, c5, ?_, ?_, ?_⟩
      · have e := ((((((R6.out.set0 (.int .i64 q)).set1 (.slice none 0 0)).set2 (.slice a5 (n0 + 1) c5)).set3 (.slice a1 n1 c1)).set4 (.slice a2 n2 c2)).set5 (.slice ak nk ck))
        simp [results, Tryz.results63, go_sem, e.c0, e.c1, e.c2, e.c3, e.c4, e.c5]
      · first | rfl | rw [HOK.out]
      · have hs := HSZ.out
        have hx := HX.out
        have kk : KeepO w.heap.size W.heap.size wd _ := (((((((setK _ (X + 1) 0 (.int .i64 q)).mono (by omega) (by omega))).trans ((setK _ (X + 1) 1 (.slice none 0 0)).mono (by omega) (by omega))).trans ((setK _ (X + 1) 2 (.slice a5 (n0 + 1) c5)).mono (by omega) (by omega))).trans ((setK _ (X + 1) 3 (.slice a1 n1 c1)).mono (by omega) (by omega))).trans ((setK _ (X + 1) 4 (.slice a2 n2 c2)).mono (by omega) (by omega))).trans ((setK _ (X + 1) 5 (.slice ak nk ck)).mono (by omega) (by omega))
        exact HFIN.out _ kk
      · have hx : w.heap.size ≤ X + 1 := by have := HX.out; omega
        exact ((((((K6.out).setCell (p := ⟨X + 1, 0, none⟩) hx _).setCell (p := ⟨X + 1, 1, none⟩) hx _).setCell (p := ⟨X + 1, 2, none⟩) hx _).setCell (p := ⟨X + 1, 3, none⟩) hx _).setCell (p := ⟨X + 1, 4, none⟩) hx _).setCell (p := ⟨X + 1, 5, none⟩) hx _
    · have HOK : Hid ((true && decide (n0 + 1 ≤ 4)) = false) := by show _ = _; simp; omega
      have h4I : ¬ (n0 : Int) + 1 ≤ 4 := by omega
      refine wp_region_held_drew (S := (fun w' => w'.cell? ⟨X, 0, none⟩ = some (.int .i64 q) ∧ w'.cell? ⟨X, 1, none⟩ = some (.slice none 0 0) ∧ w'.cell? ⟨X, 2, none⟩ = some (.slice a5 (n0 + 1) c5) ∧ w'.cell? ⟨X, 3, none⟩ = some (.slice a1 n1 c1) ∧ w'.cell? ⟨X, 4, none⟩ = some (.slice a2 n2 c2) ∧ w'.cell? ⟨X, 5, none⟩ = some (.slice ak nk ck) ∧ X < w'.heap.size)) (by kernel_rfl) (HMK.out _ k0) (fun hHeld => ?_)
      generalize w6.drew = wd at k0 hHeld R6 K6 HFIN ⊢
      refine tkL 0 hHeld ?_; try go_frame
      refine tkL 1 hHeld ?_; try go_frame
      refine tkL 2 hHeld ?_; try go_frame
      refine tkL 3 hHeld ?_; try go_frame
      refine tkL 4 hHeld ?_; try go_frame
      refine tkL 5 hHeld ?_; try go_frame
      refine tkL 6 hHeld ?_; try go_frame
      refine tkL 7 hHeld ?_; try go_frame
      refine tkL 8 hHeld ?_; try go_frame
      refine wpAnyH_ready (rs := [9]) (by kernel_rfl) (by simp) ?_
      refine consL rfl (fun K hK => ?_) AllReadyH.nil
      have r0 := R6.out.c0
      have r1 := R6.out.c1
      have r2 := R6.out.c2
      have r3 := R6.out.c3
      have r4 := R6.out.c4
      have r5 := R6.out.c5
      have rf := R6.out.fz
      have rz := R6.out.lt
      have hxx : X + 1 ≠ X := by omega
      go_simp
      have k1 := ((((((k0.other (b' := X + 1) (o := 0) hxx (.int .i64 q)).other (b' := X + 1) (o := 1) hxx (.slice none 0 0)).other (b' := X + 1) (o := 2) hxx (.slice a5 (n0 + 1) c5)).other (b' := X + 1) (o := 3) hxx (.slice a1 n1 c1)).other (b' := X + 1) (o := 4) hxx (.slice a2 n2 c2)).other (b' := X + 1) (o := 5) hxx (.slice ak nk ck))
      refine hK.out _ _ (HMK.out _ k1) (fun hHeld => ?_)
      clear hK K
      try go_frame
      refine tkL 10 hHeld ?_; try go_frame
      refine wpAnyH_done (by kernel_rfl) ?_ _
      clear k1 hxx hHeld r0 r1 r2 r3 r4 r5 rf rz
      go_wp2
      refine bodyPost_ret (v := .tuple #[.agg #[.int .i64 q, .slice none 0 0, .slice a5 (n0 + 1) c5, .slice a1 n1 c1, .slice a2 n2 c2, .slice ak nk ck], .bool false]) ?_ rfl ⟨a5, c5, ?_, ?_, ?_⟩
      · have e := ((((((R6.out.set0 (.int .i64 q)).set1 (.slice none 0 0)).set2 (.slice a5 (n0 + 1) c5)).set3 (.slice a1 n1 c1)).set4 (.slice a2 n2 c2)).set5 (.slice ak nk ck))
        simp [results, Tryz.results63, go_sem, e.c0, e.c1, e.c2, e.c3, e.c4, e.c5]
      · first | rfl | rw [HOK.out]
      · have hs := HSZ.out
        have hx := HX.out
        have kk : KeepO w.heap.size W.heap.size wd _ := (((((((setK _ (X + 1) 0 (.int .i64 q)).mono (by omega) (by omega))).trans ((setK _ (X + 1) 1 (.slice none 0 0)).mono (by omega) (by omega))).trans ((setK _ (X + 1) 2 (.slice a5 (n0 + 1) c5)).mono (by omega) (by omega))).trans ((setK _ (X + 1) 3 (.slice a1 n1 c1)).mono (by omega) (by omega))).trans ((setK _ (X + 1) 4 (.slice a2 n2 c2)).mono (by omega) (by omega))).trans ((setK _ (X + 1) 5 (.slice ak nk ck)).mono (by omega) (by omega))
        exact HFIN.out _ kk
      · have hx : w.heap.size ≤ X + 1 := by have := HX.out; omega
        exact ((((((K6.out).setCell (p := ⟨X + 1, 0, none⟩) hx _).setCell (p := ⟨X + 1, 1, none⟩) hx _).setCell (p := ⟨X + 1, 2, none⟩) hx _).setCell (p := ⟨X + 1, 3, none⟩) hx _).setCell (p := ⟨X + 1, 4, none⟩) hx _).setCell (p := ⟨X + 1, 5, none⟩) hx _
end Go.Proofs.YtlmgojlffgkciaaGreat

namespace Go.Proofs.YtlmgojlffgkciaaGreat
open Go.RowKit
set_option maxHeartbeats 800000 in
theorem specRunL (a : Option Addr) (n c : Nat) (L : List EntD) (w : World) (hL : EntsAt w a n c L) :
    Calls Tryz.prog 96 #[.slice a n c] w fun e w' => e = .returned (.agg #[.slice a n c, .int .i64 ((maskL L : Nat) : Int)]) ∧ Below w.heap.size w w' := by
  go_enter Tryz.func96, Tryz.ntmps96
  go_wp2_with fail
  refine (specMaskL a n c L _ (hL.keep ((Below.refl _ _).alloc (Nat.le_refl _) _))).mono ?_
  rintro e w1 ⟨rfl, hb1⟩
  obtain ⟨hc1, hf1⟩ := bcell hb1
  have hz := hb1.size
  simp at hz
  go_wp2
  refine bodyPost_ret (v := .agg #[.slice a n c, .int .i64 ((maskL L : Nat) : Int)]) (by simp [results, Tryz.results96, go_sem, hc1]) rfl ⟨rfl, ?_⟩
  have hB : Below w.heap.size w w1 := ((Below.refl _ _).alloc (Nat.le_refl _) _).trans (hb1.mono (by simp))
  exact (hB.setCell (p := ⟨w.heap.size, 0, none⟩) (Nat.le_refl _) _).setCell (p := ⟨w.heap.size, 1, none⟩) (Nat.le_refl _) _
end Go.Proofs.YtlmgojlffgkciaaGreat
