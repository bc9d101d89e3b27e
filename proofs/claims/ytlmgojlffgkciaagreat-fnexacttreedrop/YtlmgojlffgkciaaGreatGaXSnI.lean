/-
  The program's snap: what it makes of a tree, by a walk of its Go text.
-/
import Derived.RangeFuncBox
import Derived.Test.YtlmgojlffgkciaaGreatGaXCcJ
import Derived.Test.YtlmgojlffgkciaaGreatGa17
namespace Go.Proofs.YtlmgojlffgkciaaGreat
open Go.RowKit
set_option maxRecDepth 100000
set_option maxHeartbeats 4000000
theorem intsIn_row {w : World} {base g n c : Nat} {S : List Int} (h : w.ownsRow base 3 1 (.slice (some ⟨g, 0, none⟩) n c) n (S.map (Value.int .i64))) (hl : S.length = n) (hw : ∀ z ∈ S, (Lit.int .i64 z).wf = true) : IntsIn base w (some ⟨g, 0, none⟩) n c S := by
  have hrc := row_rooms h
  refine ⟨hl, hrc.1, hrc.2, hw, (fun e => by cases e), ?_, ?_⟩
  · rintro x e _
    cases e
    exact ⟨(h.lt g rfl).2, rfl, (h.lt g rfl).1⟩
  · rintro x e i hi
    cases e
    simp only [Nat.zero_add]
    have h1 := h.cellAt i (by omega)
    rw [List.getElem?_map, List.getElem?_eq_getElem hi] at h1
    exact h1
theorem ints_one (w : World) (q : Int) (hq : (Lit.int .i64 q).wf = true) : IntsIn 0 (w.alloc (.cells #[.int .i64 q] 3)) (some ⟨w.heap.size, 0, none⟩) 1 1 [q] := by
  refine ⟨rfl, Nat.le_refl _, by unfold maxLen; omega, fun z hz => by rw [List.mem_singleton] at hz; subst hz; exact hq, (fun e => by cases e), ?_, ?_⟩
  · rintro x e _
    cases e
    exact ⟨by simp, rfl, Nat.zero_le _⟩
  · rintro x e i hi
    cases e
    have hi0 : i = 0 := by simp at hi; exact hi
    subst hi0
    simp
theorem implSnap (lo : Nat) (q : Int) (am : Option Addr) (nm cm : Nat) (a0 a1 a2 : Option Addr) (n0 c0 n1 c1 n2 c2 kb ko nk ck : Nat) (S : List Int) (w : World) (hS : IntsIn lo w (some ⟨kb, ko, none⟩) nk ck S) (hn : nk ≤ 1000) (hq : (Lit.int .i64 q).wf = true) :
    Calls Tryz.prog 43 #[.agg #[.int .i64 q, .slice am nm cm, .slice a0 n0 c0, .slice a1 n1 c1, .slice a2 n2 c2, .slice (some ⟨kb, ko, none⟩) nk ck]] w fun e w' => ∃ g c, e = .returned (.tuple #[.agg #[.int .i64 q, .slice am nm cm, .slice a0 n0 c0, .slice a1 n1 c1, .slice a2 n2 c2, .slice (some ⟨g, 0, none⟩) (nk + 1) c], .bool (decide (nk < 4) && !decide (q ∈ S))]) ∧ IntsIn w.heap.size w' (some ⟨g, 0, none⟩) (nk + 1) c (S ++ [q]) ∧ Below w.heap.size w w' := by
  obtain ⟨X, hX⟩ : ∃ X, X = w.heap.size := ⟨_, rfl⟩
  obtain ⟨W, hW⟩ : ∃ W, W = (w.alloc (.cells #[.int .i64 q, .slice am nm cm, .slice a0 n0 c0, .slice a1 n1 c1, .slice a2 n2 c2, .slice (some ⟨kb, ko, none⟩) nk ck] 67)).alloc (.cells #[.int .i64 0, .slice none 0 0, .slice none 0 0, .slice none 0 0, .slice none 0 0, .slice none 0 0] 67) := ⟨_, rfl⟩
  have kW : Below w.heap.size w W := by rw [hW]; exact ((Below.refl _ _).alloc (Nat.le_refl _) _).alloc (by simp) _
  have bx : Box6 W X (.int .i64 q) (.slice am nm cm) (.slice a0 n0 c0) (.slice a1 n1 c1) (.slice a2 n2 c2) (.slice (some ⟨kb, ko, none⟩) nk ck) := by rw [hW, hX]; exact (Box6.new _ _ _ _ _ _ _ _).alloc _
  have br : Box6 W (X + 1) (.int .i64 0) (.slice none 0 0) (.slice none 0 0) (.slice none 0 0) (.slice none 0 0) (.slice none 0 0) := by
    have := Box6.new (w.alloc (.cells #[.int .i64 q, .slice am nm cm, .slice a0 n0 c0, .slice a1 n1 c1, .slice a2 n2 c2, .slice (some ⟨kb, ko, none⟩) nk ck] 67)) 67 (.int .i64 0) (.slice none 0 0) (.slice none 0 0) (.slice none 0 0) (.slice none 0 0) (.slice none 0 0)
    rw [World.size_alloc] at this
    rw [hW, hX]
    exact this
  have HS : Hid (IntsIn lo W (some ⟨kb, ko, none⟩) nk ck S) := hS.keep kW
  have HSL : Hid (S.length = nk) := hS.length
  have HSW : Hid (∀ z ∈ S, (Lit.int .i64 z).wf = true) := hS.wfs
  have HX : Hid (X = w.heap.size) := hX
  have K0 : Hid (Below w.heap.size w W) := kW
  obtain ⟨Z, hZ⟩ : ∃ Z, Z = decide (q ∈ S) := ⟨_, rfl⟩
  have CC : Hid (∀ w', Below W.heap.size W w' → Calls Tryz.prog 80 #[.slice (some ⟨kb, ko, none⟩) nk ck, .int .i64 q] w' fun e w'' => e = .returned (.bool Z) ∧ w'' = w') := fun w' k => by rw [hZ]; exact containsInts lo _ nk ck S q w' (HS.out.keep k) (by omega)
  rw [← hZ]
  clear hS kW hZ
  have x0 := bx.c0
  have x1 := bx.c1
  have x2 := bx.c2
  have x3 := bx.c3
  have x4 := bx.c4
  have x5 := bx.c5
  have xf := bx.fz
  have xz := bx.lt
  have hsz : W.heap.size = X + 1 + 1 := by rw [hW, hX]; simp
  obtain ⟨W2, hW2⟩ : ∃ W2, W2 = (W.alloc (.cells #[.int .i64 q] 3)).alloc (.cells #[.slice (some ⟨kb, ko, none⟩) nk ck, .slice (some ⟨X + 1 + 1, 0, none⟩) 1 1] 24) := ⟨_, rfl⟩
  have ka : Below W.heap.size W (W.alloc (.cells #[.int .i64 q] 3)) := (Below.refl _ _).alloc (Nat.le_refl _) _
  have kb2 : Below (W.alloc (.cells #[.int .i64 q] 3)).heap.size (W.alloc (.cells #[.int .i64 q] 3)) W2 := by rw [hW2]; exact (Below.refl _ _).alloc (Nat.le_refl _) _
  have k2 : Below W.heap.size W W2 := ka.trans (kb2.mono ka.size)
  have hP : IPartsAt W2 (X + 1 + 1 + 1) [S, [q]] := by
    have hI0 : IntsIn 0 W2 (some ⟨kb, ko, none⟩) nk ck S := (HS.out.lower (Nat.zero_le _)).keep k2
    have hI1 : IntsIn 0 W2 (some ⟨X + 1 + 1, 0, none⟩) 1 1 [q] := by
      have := (ints_one W q hq).keep kb2
      rw [hsz] at this
      exact this
    have hc : ∀ j u, [Value.slice (some ⟨kb, ko, none⟩) nk ck, Value.slice (some ⟨X + 1 + 1, 0, none⟩) 1 1][j]? = some u → W2.cell? ⟨X + 1 + 1 + 1, j, none⟩ = some u := by
      intro j u hj
      have h1 := cell_two_new' (W.alloc (.cells #[.int .i64 q] 3)) (.slice (some ⟨kb, ko, none⟩) nk ck) (.slice (some ⟨X + 1 + 1, 0, none⟩) 1 1) 24 j u hj
      rw [Go.WideShapes.add_plain, Nat.zero_add, World.size_alloc, hsz, ← hW2] at h1
      exact h1
    refine ⟨World.block_lt_of_cell? _ _ (hc 0 _ rfl), fun i S' hS' => ?_⟩
    match i, hS' with
    | 0, hS' => simp at hS'; subst hS'; have hl := HSL.out; subst hl; exact ⟨kb, ko, ck, hc 0 _ rfl, hI0⟩
    | 1, hS' => simp at hS'; subst hS'; exact ⟨X + 1 + 1, 0, 1, hc 1 _ rfl, hI1⟩
  have hfl : [S, [q]].flatten = S ++ [q] := by simp
  have CN : Hid (Calls Tryz.prog 81 #[.slice (some ⟨X + 1 + 1 + 1, 0, none⟩) 2 2] W2 fun e w' => ∃ g c, e = .returned (.slice (some ⟨g, 0, none⟩) (nk + 1) c) ∧ IntsIn W.heap.size w' (some ⟨g, 0, none⟩) (nk + 1) c (S ++ [q]) ∧ Below W.heap.size W w') := by
    have hl := HSL.out
    refine (concatInts (X + 1 + 1 + 1) 2 [S, [q]] W2 hP rfl (by omega) (by rw [hfl, List.length_append]; simp; omega)).mono ?_
    rintro e w' ⟨v, rfl, ho, hb⟩
    rw [hfl, show (S ++ [q]).length = nk + 1 by rw [List.length_append, hl]; rfl] at ho
    obtain ⟨g, c, rfl⟩ := ownsRow_succ ho
    refine ⟨g, c, rfl, (intsIn_row ho (by rw [List.length_append, hl]; rfl) (fun z hz => ?_)).lower k2.size, k2.trans (hb.mono k2.size)⟩
    rcases List.mem_append.1 hz with h | h
    · exact HSW.out z h
    · rw [List.mem_singleton] at h; subst h; exact hq
  clear hP hfl ka kb2 k2
  have HSZ : Hid (W.heap.size = X + 1 + 1) := hsz
  go_enter Tryz.func43, Tryz.ntmps43
  by_cases h4 : nk < 4
  · have h4I : (nk : Int) < 4 := by omega
    go_wp2_with fail
    rw [← hX, ← hW]
    clear hX hW
    refine (CC.out _ (Below.refl _ _)).mono ?_
    rintro e w1 ⟨rfl, hw1⟩
    have hw1 := hw1.symm
    subst hw1
    go_wp2_with fail
    try simp only [hsz]
    rw [← hW2]
    clear hW2 x0 x1 x2 x3 x4 x5 xf xz hsz
    refine CN.out.mono ?_
    rintro e w3 ⟨g, c, rfl, hI3, hb3⟩
    have HI3 : Hid (IntsIn W.heap.size w3 (some ⟨g, 0, none⟩) (nk + 1) c (S ++ [q])) := hI3
    have HB3 : Hid (Below W.heap.size W w3) := hb3
    have b3 := bx.keep hb3
    have r3 := br.keep hb3
    have HR3 : Hid (Box6 w3 (X + 1) (.int .i64 0) (.slice none 0 0) (.slice none 0 0) (.slice none 0 0) (.slice none 0 0) (.slice none 0 0)) := r3
    have x0 := b3.c0
    have x1 := b3.c1
    have x2 := b3.c2
    have x3 := b3.c3
    have x4 := b3.c4
    have x5 := b3.c5
    have xf := b3.fz
    have xz := b3.lt
    have y0 := r3.c0
    have y1 := r3.c1
    have y2 := r3.c2
    have y3 := r3.c3
    have y4 := r3.c4
    have y5 := r3.c5
    have yf := r3.fz
    have yz := r3.lt
    clear hI3 hb3 b3 r3 bx br CN CC
    go_wp2
    refine bodyPost_ret (v := .tuple #[.agg #[.int .i64 q, .slice am nm cm, .slice a0 n0 c0, .slice a1 n1 c1, .slice a2 n2 c2, .slice (some ⟨g, 0, none⟩) (nk + 1) c], .bool (!Z)]) ?_ rfl ⟨g, c, ?_, ?_, ?_⟩
    · have e := (((((HR3.out.other (b' := X) (o := 5) (by omega) (.slice (some ⟨g, 0, none⟩) (nk + 1) c)).set0 (.int .i64 q)).set1 (.slice am nm cm)).set2 (.slice a0 n0 c0)).set3 (.slice a1 n1 c1)).set4 (.slice a2 n2 c2) |>.set5 (.slice (some ⟨g, 0, none⟩) (nk + 1) c)
      simp [results, Tryz.results43, go_sem, e.c0, e.c1, e.c2, e.c3, e.c4, e.c5]
    · simp [h4]
    · have hx := HX.out
      have hs := HSZ.out
      have hset : ∀ (w' : World) (b o : Nat) (u : Value), b < W.heap.size → Same W.heap.size w' (w'.setCell ⟨b, o, none⟩ u) := fun w' b o u hb => Same.of_set _ _ hb
      exact ((((((((HI3.out.same (hset _ X _ _ (by omega))).same (hset _ (X + 1) _ _ (by omega))).same (hset _ (X + 1) _ _ (by omega))).same (hset _ (X + 1) _ _ (by omega))).same (hset _ (X + 1) _ _ (by omega))).same (hset _ (X + 1) _ _ (by omega))).same (hset _ (X + 1) _ _ (by omega)))).lower K0.out.size
    · have hx := HX.out
      exact ((((((((K0.out.trans (HB3.out.mono K0.out.size)).setCell (p := ⟨X, 5, none⟩) (by show _ ≤ X; omega) _).setCell (p := ⟨X + 1, 0, none⟩) (by show _ ≤ X + 1; omega) _).setCell (p := ⟨X + 1, 1, none⟩) (by show _ ≤ X + 1; omega) _).setCell (p := ⟨X + 1, 2, none⟩) (by show _ ≤ X + 1; omega) _).setCell (p := ⟨X + 1, 3, none⟩) (by show _ ≤ X + 1; omega) _).setCell (p := ⟨X + 1, 4, none⟩) (by show _ ≤ X + 1; omega) _).setCell (p := ⟨X + 1, 5, none⟩) (by show _ ≤ X + 1; omega) _)
  · have h4I : ¬ (nk : Int) < 4 := by omega
    go_wp2_with fail
    rw [← hX, ← hW, ← hW2]
    clear hX hW hW2 x0 x1 x2 x3 x4 x5 xf xz hsz
    refine CN.out.mono ?_
    rintro e w3 ⟨g, c, rfl, hI3, hb3⟩
    have HI3 : Hid (IntsIn W.heap.size w3 (some ⟨g, 0, none⟩) (nk + 1) c (S ++ [q])) := hI3
    have HB3 : Hid (Below W.heap.size W w3) := hb3
    have b3 := bx.keep hb3
    have r3 := br.keep hb3
    have HR3 : Hid (Box6 w3 (X + 1) (.int .i64 0) (.slice none 0 0) (.slice none 0 0) (.slice none 0 0) (.slice none 0 0) (.slice none 0 0)) := r3
    have x0 := b3.c0
    have x1 := b3.c1
    have x2 := b3.c2
    have x3 := b3.c3
    have x4 := b3.c4
    have x5 := b3.c5
    have xf := b3.fz
    have xz := b3.lt
    have y0 := r3.c0
    have y1 := r3.c1
    have y2 := r3.c2
    have y3 := r3.c3
    have y4 := r3.c4
    have y5 := r3.c5
    have yf := r3.fz
    have yz := r3.lt
    clear hI3 hb3 b3 r3 bx br CN CC
    go_wp2
    refine bodyPost_ret (v := .tuple #[.agg #[.int .i64 q, .slice am nm cm, .slice a0 n0 c0, .slice a1 n1 c1, .slice a2 n2 c2, .slice (some ⟨g, 0, none⟩) (nk + 1) c], .bool (false)]) ?_ rfl ⟨g, c, ?_, ?_, ?_⟩
    · have e := (((((HR3.out.other (b' := X) (o := 5) (by omega) (.slice (some ⟨g, 0, none⟩) (nk + 1) c)).set0 (.int .i64 q)).set1 (.slice am nm cm)).set2 (.slice a0 n0 c0)).set3 (.slice a1 n1 c1)).set4 (.slice a2 n2 c2) |>.set5 (.slice (some ⟨g, 0, none⟩) (nk + 1) c)
      simp [results, Tryz.results43, go_sem, e.c0, e.c1, e.c2, e.c3, e.c4, e.c5]
    · simp [h4]
    · have hx := HX.out
      have hs := HSZ.out
      have hset : ∀ (w' : World) (b o : Nat) (u : Value), b < W.heap.size → Same W.heap.size w' (w'.setCell ⟨b, o, none⟩ u) := fun w' b o u hb => Same.of_set _ _ hb
      exact ((((((((HI3.out.same (hset _ X _ _ (by omega))).same (hset _ (X + 1) _ _ (by omega))).same (hset _ (X + 1) _ _ (by omega))).same (hset _ (X + 1) _ _ (by omega))).same (hset _ (X + 1) _ _ (by omega))).same (hset _ (X + 1) _ _ (by omega))).same (hset _ (X + 1) _ _ (by omega)))).lower K0.out.size
    · have hx := HX.out
      exact ((((((((K0.out.trans (HB3.out.mono K0.out.size)).setCell (p := ⟨X, 5, none⟩) (by show _ ≤ X; omega) _).setCell (p := ⟨X + 1, 0, none⟩) (by show _ ≤ X + 1; omega) _).setCell (p := ⟨X + 1, 1, none⟩) (by show _ ≤ X + 1; omega) _).setCell (p := ⟨X + 1, 2, none⟩) (by show _ ≤ X + 1; omega) _).setCell (p := ⟨X + 1, 3, none⟩) (by show _ ≤ X + 1; omega) _).setCell (p := ⟨X + 1, 4, none⟩) (by show _ ≤ X + 1; omega) _).setCell (p := ⟨X + 1, 5, none⟩) (by show _ ≤ X + 1; omega) _)
end Go.Proofs.YtlmgojlffgkciaaGreat
