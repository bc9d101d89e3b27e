/-
  The walk of the law FnExactTreeFlush: it answers true at every tree.
-/
import Derived.Test.YtlmgojlffgkciaaGreatFz30
import Derived.Test.YtlmgojlffgkciaaGreatFz31
import Derived.Test.YtlmgojlffgkciaaGreatFz43
import Derived.Test.YtlmgojlffgkciaaGreatFz47
import Derived.Test.YtlmgojlffgkciaaGreatFz48
namespace Go.Proofs.YtlmgojlffgkciaaGreat
open Go.RowKit
set_option maxRecDepth 100000
set_option maxHeartbeats 4000000
theorem wrapTreeFlush (q : Int) (am : Option Addr) (nm cm : Nat) (av : Option Addr) (nv cv : Nat) (ak : Option Addr) (nk ck : Nat) (q2 : Int) (M2 : List EntD) (V2 : List (List RunD)) (S2 : List Int) (ok : Bool) (w : World)
    (hC : ∀ w', Below w.heap.size w w' → Calls Tryz.prog 42 #[.agg #[.int .i64 q, .slice am nm cm, .slice av nv cv, .slice ak nk ck], .func (.func 63) #[] #[]] w' (ImpR q2 M2 V2 S2 ok w')) :
    Calls Tryz.prog 29 #[.agg #[.int .i64 q, .slice am nm cm, .slice av nv cv, .slice ak nk ck]] w (ImpR q2 M2 V2 S2 ok w) := by
  obtain ⟨X, hX⟩ : ∃ X, X = w.heap.size := ⟨_, rfl⟩
  obtain ⟨W, hW⟩ : ∃ W, W = (w.alloc (.cells #[.int .i64 q, .slice am nm cm, .slice av nv cv, .slice ak nk ck] 31)).alloc (.cells #[.int .i64 0, .slice none 0 0, .slice none 0 0, .slice none 0 0] 31) := ⟨_, rfl⟩
  have kW : Below w.heap.size w W := by rw [hW]; exact (((Below.refl _ _).alloc (Nat.le_refl _) _).alloc (by simp; try omega) _)
  have br : Box4 W (X + 1) (.int .i64 0) (.slice none 0 0) (.slice none 0 0) (.slice none 0 0) := by
    have := Box4.new (w.alloc (.cells #[.int .i64 q, .slice am nm cm, .slice av nv cv, .slice ak nk ck] 31)) 31 (.int .i64 0) (.slice none 0 0) (.slice none 0 0) (.slice none 0 0)
    simp only [World.size_alloc] at this
    rw [hW, hX]
    exact this
  have HX : Hid (X = w.heap.size) := hX
  have K0 : Hid (Below w.heap.size w W) := kW
  have CT : Hid (Calls Tryz.prog 42 #[.agg #[.int .i64 q, .slice am nm cm, .slice av nv cv, .slice ak nk ck], .func (.func 63) #[] #[]] W (ImpR q2 M2 V2 S2 ok W)) := by
    try rw [hX]
    exact hC W kW
  have HXL : Hid (X + 1 < W.heap.size) := br.lt
  clear kW hC
  go_enter Tryz.func29, Tryz.ntmps29
  go_wp2_with fail
  rw [← hX, ← hW]
  clear hX hW
  refine CT.out.mono ?_
  rintro e w1 ⟨a1, n1, a2, n2, a3, n3, gs, bs, es, rfl, hR1, hb1⟩
  have K1 : Hid (Below w.heap.size w w1) := K0.out.trans (hb1.mono K0.out.size)
  have HR1 : Hid (ResT W.heap.size w1.heap.size w1 a1 n1 a2 n2 a3 n3 M2 V2 S2 gs bs es) := hR1
  have br1 := br.keep hb1
  have HB1 : Hid (Box4 w1 (X + 1) (.int .i64 0) (.slice none 0 0) (.slice none 0 0) (.slice none 0 0)) := br1
  have r0 := br1.c0
  have r1 := br1.c1
  have r2 := br1.c2
  have r3 := br1.c3
  have rf := br1.fz
  have rz := br1.lt
  clear hb1 br hR1 CT br1
  go_wp2
  refine bodyPost_ret (v := .tuple #[.agg #[.int .i64 q2, .slice a1 n1 n1, .slice a2 n2 n2, .slice a3 n3 n3], .bool ok]) ?_ rfl ⟨a1, n1, a2, n2, a3, n3, gs, bs, es, rfl, ?_, ?_⟩
  · have e := (((HB1.out.set0 (.int .i64 q2)).set1 (.slice a1 n1 n1)).set2 (.slice a2 n2 n2)).set3 (.slice a3 n3 n3)
    simp [results, Tryz.results29, go_sem, e.c0, e.c1, e.c2, e.c3]
  · exact resT_four HR1.out HXL.out K0.out.size (by simp [World.setCell]) _ _ _ _
  · have hx : w.heap.size ≤ X + 1 := by have := HX.out; omega
    exact (((K1.out.setCell (p := ⟨X + 1, 0, none⟩) hx _).setCell (p := ⟨X + 1, 1, none⟩) hx _).setCell (p := ⟨X + 1, 2, none⟩) hx _).setCell (p := ⟨X + 1, 3, none⟩) hx _
theorem right_smE {L : List EntD} (h : rightB L = true) : SmallE L := fun e he => by
  obtain ⟨j, hj, rfl⟩ := List.getElem_of_mem he
  exact entB_sizes (right_ent h (List.getElem?_eq_getElem hj))
theorem flushHow (q : Int) (am : Option Addr) (nm cm e0 n0 c0 : Nat) (a1 : Option Addr) (n1 c1 : Nat) (a2 : Option Addr) (n2 c2 : Nat) (ak : Option Addr) (nk ck : Nat) (M : List EntD) (A B C : List RunD) (S : List Int) (w : World) (hSh : ShIn w am nm cm (some ⟨e0, 0, none⟩) n0 c0 a1 n1 c1 a2 n2 c2 ak nk ck M A B C S) (hr : rightB M = true) (hnm : nm ≤ 60) (hnk : nk ≤ 4) (hn0 : n0 ≤ 4) :
    Calls Tryz.prog 63 #[.agg #[.int .i64 q, .slice am nm cm, .slice (some ⟨e0, 0, none⟩) n0 c0, .slice a1 n1 c1, .slice a2 n2 c2, .slice ak nk ck]] w fun e w' => (flushO M A = true → HowY q [] (A ++ [flushR M S]) B C S w e w') ∧ (flushO M A = false → HowN w e w') := by
  refine (implFlush q am nm cm e0 0 n0 c0 a1 n1 c1 a2 n2 c2 ak nk ck M A B C S w hSh (by omega) (by omega) (by omega)).mono ?_
  rintro e w' ⟨a5, c5, rfl, hI, hb⟩
  have hl := hSh.r0.length
  have hml := hSh.mem.length
  have hk := hSh.keep hb
  have hval : (ofB (squashL M S false) && decide (n0 + 1 ≤ 4)) = flushO M A := by
    unfold flushO
    rw [hl]
    by_cases hM : M = []
    · subst hM
      have : squashL [] S false = [] := by unfold squashL; split <;> rfl
      rw [this]
      simp [ofB]
    · have h1 := (of_right (right_squash hr S false) (squash_some hr hM S) (by have := squashL_len M S false; omega)).1
      rw [h1]
      simp [hM]
      omega
  refine ⟨fun h => ?_, fun h => ⟨q, none, 0, 0, a5, n0 + 1, c5, a1, n1, c1, a2, n2, c2, ak, nk, ck, by rw [hval, h], hb⟩⟩
  have hM : M ≠ [] := fun e => by subst e; simp [flushO] at h
  obtain ⟨_, h2, h3⟩ := of_right (right_squash hr S false) (squash_some hr hM S) (by have := squashL_len M S false; omega)
  rw [h2, h3] at hI
  exact ⟨none, 0, 0, a5, n0 + 1, c5, a1, n1, c1, a2, n2, c2, ak, nk, ck, by rw [hval, h], ⟨⟨rfl, Nat.le_refl _, Nat.zero_le _, (fun e he => by cases he), fun _ => rfl, (fun x e => by cases e), (fun x e => by cases e)⟩, hI, hk.r1, hk.r2, hk.sn⟩, hb⟩
theorem levels_three {q : Int} {M : List EntD} {A B C : List RunD} {S : List Int} (htb : treeB q M [A, B, C] S = true) : A.length ≤ 4 := by
  have h8 : levelsB [A, B, C] q = true := (tree_parts htb).2.2.2.2.2.2.2.1
  unfold levelsB at h8
  simp only [Bool.and_eq_true] at h8
  have h := h8.1
  unfold runsB at h
  simp only [Bool.and_eq_true, decide_eq_true_eq] at h
  have := h.1
  omega
theorem snaps_few {q : Int} {M : List EntD} {V : List (List RunD)} {S : List Int} (htb : treeB q M V S = true) : S.length ≤ 4 := by
  have h1 := (tree_parts htb).2.2.2.2.2.2.1
  unfold snapsB at h1
  rw [Bool.and_eq_true] at h1
  exact of_decide_eq_true h1.1
theorem flushBoth (q : Int) (nm nv ns : Nat) (M : List EntD) (A B C : List RunD) (S : List Int) (hsum : SumOk M [A, B, C] S) (htb : treeB q M [A, B, C] S = true) :
    (∀ (a b c : Nat) (w' : World), TreeIn 0 w' (some ⟨a, 0, none⟩) nm nm (some ⟨b, 0, none⟩) nv nv (some ⟨c, 0, none⟩) ns ns M [A, B, C] S → LevNN w' b [A, B, C] → Calls Tryz.prog 28 #[.agg #[.int .i64 q, .slice (some ⟨a, 0, none⟩) nm nm, .slice (some ⟨b, 0, none⟩) nv nv, .slice (some ⟨c, 0, none⟩) ns ns]] w' (DocR q (if flushO M A = true then [] else M) [if flushO M A = true then A ++ [flushR M S] else A, B, C] S (flushO M A) w')) ∧
    (∀ (a b c : Nat) (w' : World), TreeIn 0 w' (some ⟨a, 0, none⟩) nm nm (some ⟨b, 0, none⟩) nv nv (some ⟨c, 0, none⟩) ns ns M [A, B, C] S → LevNN w' b [A, B, C] → Calls Tryz.prog 29 #[.agg #[.int .i64 q, .slice (some ⟨a, 0, none⟩) nm nm, .slice (some ⟨b, 0, none⟩) nv nv, .slice (some ⟨c, 0, none⟩) ns ns]] w' (ImpR q (if flushO M A = true then [] else M) [if flushO M A = true then A ++ [flushR M S] else A, B, C] S (flushO M A) w')) := by
  have hA4 := levels_three htb
  have hS4 := snaps_few htb
  have hM60 := (tree_parts htb).2.2.1
  have hr := (tree_parts htb).2.2.2.1
  have hout := outOk_sum hsum
  refine ⟨fun a b c w' hT _ => ?_, fun a b c w' hT hN => ?_⟩
  · have hnv : nv = 3 := hT.levels.length.symm
    subst hnv
    have hml := hT.mem.1.length
    refine specTreeFlushG 0 q a nm nm _ 3 c ns ns M [A, B, C] S q _ _ S (flushO M A) w' hT htb (fun base g1 c1 G c' g3 c3 w2 hcp hbw => ?_)
    cases hf : flushO M A with
    | true =>
      have h2 : M ≠ [] ∧ A.length < 4 := by simpa [flushO] using hf
      have hm1 : 1 ≤ nm := by
        rw [← hml]
        cases M with
        | nil => exact absurd rfl h2.1
        | cons x y => simp
      simp only [if_true]
      exact specFlushY base q g1 nm c1 G c' g3 ns c3 M A B C S w2 hcp base (Nat.le_refl _) hbw hm1 (by omega) h2.2
    | false =>
      have h2 : nm = 0 ∨ 4 ≤ A.length := by
        by_cases hm : nm = 0
        · exact .inl hm
        · refine .inr ?_
          have hM : M ≠ [] := fun e => by subst e; simp at hml; omega
          have : ¬ (M ≠ [] ∧ A.length < 4) := fun h => by have : flushO M A = true := by simpa [flushO] using h
                                                          rw [hf] at this; cases this
          by_cases h4 : A.length < 4
          · exact absurd ⟨hM, h4⟩ this
          · omega
      simp only [Bool.false_eq_true, if_false]
      exact specFlushN base q g1 nm c1 G c' g3 ns c3 M A B C S w2 hcp base (Nat.le_refl _) hbw h2
  · have hml := hT.mem.1.length
    have hsl := hT.snaps.length
    refine wrapTreeFlush q _ nm nm _ nv nv _ ns ns q _ _ S (flushO M A) w' (fun w2 k2 => ?_)
    obtain ⟨A', B', C', e0, n0, c0, e1, n1, c1, e2, n2, c2, rfl, hV', hsh, hCS⟩ := (hT.keep k2).shareN htb (hN.keep k2)
    cases hV'
    have hl0 := hsh.r0.length
    cases hf : flushO M A with
    | true =>
      simp only [if_true]
      have hsq := right_squash hr S false
      have hsl' := squashL_len M S false
      have hout2 : OutOk [] (A ++ [flushR M S]) B C S := by
        refine ⟨by simp, hout.bk, (fun e he => by cases he), ⟨by rw [List.length_append]; simp; omega, fun p hp => ?_⟩, hout.b1, hout.b2, fun p hp => ?_, hout.e1, hout.e2⟩
        · rcases List.mem_append.1 hp with h | h
          · exact hout.b0.2 p h
          · rw [List.mem_singleton] at h; subst h; show (squashL M S false).length ≤ _; omega
        · rcases List.mem_append.1 hp with h | h
          · exact hout.e0 p h
          · rw [List.mem_singleton] at h; subst h; exact right_smE hsq
      exact turnedYesFlush q _ nm nm b 0 3 _ ns ns (some ⟨e0, 0, none⟩) n0 c0 (some ⟨e1, 0, none⟩) n1 c1 (some ⟨e2, 0, none⟩) n2 c2 q [] (A ++ [flushR M S]) B C S w2 hCS (fun w3 k3 => (flushHow q _ nm nm e0 n0 c0 _ n1 c1 _ n2 c2 _ ns ns M A B C S w3 (hsh.keep k3) hr (by omega) (by omega) (by omega)).mono (fun e w4 h4 => h4.1 hf)) hout2
    | false =>
      simp only [Bool.false_eq_true, if_false]
      exact turnedNotFlush q _ nm nm b 0 3 _ ns ns (some ⟨e0, 0, none⟩) n0 c0 (some ⟨e1, 0, none⟩) n1 c1 (some ⟨e2, 0, none⟩) n2 c2 M A B C S w2 hsh hCS (fun w3 k3 => (flushHow q _ nm nm e0 n0 c0 _ n1 c1 _ n2 c2 _ ns ns M A B C S w3 (hsh.keep k3) hr (by omega) (by omega) (by omega)).mono (fun e w4 h4 => h4.2 hf)) hout
theorem walkFnExactTreeFlush (q1 : Int) (m1 : Option Addr) (nm1 cm1 : Nat) (v1 : Option Addr) (nv1 cv1 : Nat) (k1 : Option Addr) (ns1 cs1 : Nat) (M1 : List EntD) (V1 : List (List RunD)) (S1 : List Int) (w : World) (w0 : (Lit.int .i64 q1).wf = true ∧ TreeIn 0 w m1 nm1 cm1 v1 nv1 cv1 k1 ns1 cs1 M1 V1 S1) :
    Calls Tryz.prog 7 #[.agg #[.int .i64 q1, .slice m1 nm1 cm1, .slice v1 nv1 cv1, .slice k1 ns1 cs1]] w fun e w' => e = .returned (.bool true) ∧ Below w.heap.size w w' := by
  cases htb : treeB q1 M1 V1 S1 with
  | true =>
    obtain ⟨A, B, C, hV3⟩ := three_of htb
    subst hV3
    refine walkGTreeFlush q1 m1 nm1 cm1 v1 nv1 cv1 k1 ns1 cs1 M1 [A, B, C] S1 q1 (if flushO M1 A = true then [] else M1) [if flushO M1 A = true then A ++ [flushR M1 S1] else A, B, C] S1 (flushO M1 A) w w0.2 (fun hsum => ?_)
    obtain ⟨h1, h2⟩ := flushBoth q1 nm1 nv1 ns1 M1 A B C S1 hsum htb
    refine ⟨h1, h2, ?_, w0.2.snaps.wfs⟩
    have h3 := fits_sum hsum.1
    have hA4 := levels_three htb
    have hM60 := (tree_parts htb).2.2.1
    have hsl := squashL_len M1 S1 false
    cases flushO M1 A with
    | false => simpa using h3
    | true =>
      simp only [if_true]
      obtain ⟨f1, f2, f3, f4, f5⟩ := h3
      refine ⟨by simp, by simp, fun Z hZ => ?_, f4, ?_⟩
      · simp only [List.mem_cons, List.not_mem_nil, or_false] at hZ
        rcases hZ with rfl | rfl | rfl
        · refine ⟨by rw [List.length_append]; simp; omega, fun p hp => ?_⟩
          rcases List.mem_append.1 hp with h | h
          · exact (f3 A (by simp)).2 p h
          · rw [List.mem_singleton] at h; subst h; show (squashL M1 S1 false).length ≤ _; omega
        · exact f3 Z (by simp)
        · exact f3 Z (by simp)
      · have e1 : mkV [A ++ [flushR M1 S1], B, C] = mkV [A, B, C] + (5 * (squashL M1 S1 false).length + 1) := by
          simp [mkV, mkR, flushR]
          omega
        have h5 := mkV_sz [A, B, C]
        have h6 := hsum.1
        rw [e1]
        simp only [List.length_nil]
        omega
  | false =>
    refine walkGTreeFlush q1 m1 nm1 cm1 v1 nv1 cv1 k1 ns1 cs1 M1 V1 S1 0 [] [] [] false w w0.2 (fun hsum => ⟨fun a b c w' hT _ => ?_, fun a b c w' hT _ => ?_, fits_nil, fun z hz => by cases hz⟩)
    · exact (specFlushNo 0 q1 _ _ _ _ _ _ _ _ _ M1 V1 S1 w' hT htb).mono (fun e w'' h => docR_none h)
    · exact wrapTreeFlush q1 _ _ _ _ _ _ _ _ _ 0 [] [] [] false w' (fun w2 k2 => (turnedNo 0 q1 _ _ _ _ _ _ _ _ _ _ M1 V1 S1 w2 (hT.keep k2) htb).mono (fun e w'' h => impR_none h))
end Go.Proofs.YtlmgojlffgkciaaGreat
