/-
  The walk of the law FnExactTreeSnap: it answers true at every tree.
-/
import Derived.Test.YtlmgojlffgkciaaGreatGa19
import Derived.Test.YtlmgojlffgkciaaGreatGaXTnSnap
import Derived.Test.YtlmgojlffgkciaaGreatGaXSnI
import Derived.Test.YtlmgojlffgkciaaGreatGaXDrS
import Derived.Test.YtlmgojlffgkciaaGreatGaXWGTreeSnap
namespace Go.Proofs.YtlmgojlffgkciaaGreat
open Go.RowKit
set_option maxRecDepth 100000
set_option maxHeartbeats 4000000
theorem specSnapNo (lo : Nat) (q : Int) (am av ak : Option Addr) (nm cm nv cv ns cs : Nat) (M : List EntD) (V : List (List RunD)) (S : List Int) (w : World) (hT : TreeIn lo w am nm cm av nv cv ak ns cs M V S) (htb : treeB q M V S = false) :
    Calls Tryz.prog 11 #[.agg #[.int .i64 q, .slice am nm cm, .slice av nv cv, .slice ak ns cs]] w (NoneR w) := by
  obtain ⟨X, hX⟩ : ∃ X, X = w.heap.size := ⟨_, rfl⟩
  obtain ⟨W, hW⟩ : ∃ W, W = (w.alloc (.cells #[.int .i64 q, .slice am nm cm, .slice av nv cv, .slice ak ns cs] 31)).alloc (.cells #[.int .i64 0, .slice none 0 0, .slice none 0 0, .slice none 0 0] 31) := ⟨_, rfl⟩
  have kW : Below w.heap.size w W := by rw [hW]; exact ((Below.refl _ _).alloc (Nat.le_refl _) _).alloc (by simp) _
  have br : Box4 W (X + 1) (.int .i64 0) (.slice none 0 0) (.slice none 0 0) (.slice none 0 0) := by
    have := Box4.new (w.alloc (.cells #[.int .i64 q, .slice am nm cm, .slice av nv cv, .slice ak ns cs] 31)) 31 (.int .i64 0) (.slice none 0 0) (.slice none 0 0) (.slice none 0 0)
    rw [World.size_alloc] at this
    rw [hW, hX]
    exact this
  have HX : Hid (X = w.heap.size) := hX
  have K0 : Hid (Below w.heap.size w W) := kW
  have CO : Hid (∀ w', Below w.heap.size w w' → Calls Tryz.prog 37 #[.agg #[.int .i64 q, .slice am nm cm, .slice av nv cv, .slice ak ns cs]] w' fun e w'' => e = .returned (.bool false) ∧ Below w'.heap.size w' w'') := fun w' k => by
    have := specTreeOk lo q _ _ _ _ _ _ _ _ _ M V S w' (hT.keep k)
    rw [htb] at this
    exact this
  clear hT kW htb
  go_enter Tryz.func11, Tryz.ntmps11
  go_wp2_with fail
  rw [← hX, ← hW]
  clear hX hW
  refine (CO.out _ K0.out).mono ?_
  rintro e w1 ⟨rfl, hb1⟩
  have K1 : Hid (Below w.heap.size w w1) := K0.out.trans (hb1.mono K0.out.size)
  have br1 := br.keep hb1
  have r0 := br1.c0
  have r1 := br1.c1
  have r2 := br1.c2
  have r3 := br1.c3
  have rf := br1.fz
  have rz := br1.lt
  clear hb1 br
  go_wp2
  refine bodyPost_ret (v := .tuple #[.agg #[.int .i64 0, .slice none 0 0, .slice none 0 0, .slice none 0 0], .bool false]) ?_ rfl ⟨rfl, ?_⟩
  · have e := (((br1.set0 (.int .i64 0)).set1 (.slice none 0 0)).set2 (.slice none 0 0)).set3 (.slice none 0 0)
    simp [results, Tryz.results11, go_sem, e.c0, e.c1, e.c2, e.c3]
  · have hx : w.heap.size ≤ X + 1 := by have := HX.out; omega
    exact (((K1.out.setCell (p := ⟨X + 1, 0, none⟩) hx _).setCell (p := ⟨X + 1, 1, none⟩) hx _).setCell (p := ⟨X + 1, 2, none⟩) hx _).setCell (p := ⟨X + 1, 3, none⟩) hx _
theorem wrapTreeSnap (q : Int) (am : Option Addr) (nm cm : Nat) (av : Option Addr) (nv cv : Nat) (ak : Option Addr) (nk ck : Nat) (q2 : Int) (M2 : List EntD) (V2 : List (List RunD)) (S2 : List Int) (ok : Bool) (w : World)
    (hC : ∀ w', Below w.heap.size w w' → Calls Tryz.prog 42 #[.agg #[.int .i64 q, .slice am nm cm, .slice av nv cv, .slice ak nk ck], .func (.func 43) #[] #[]] w' (ImpR q2 M2 V2 S2 ok w')) :
    Calls Tryz.prog 13 #[.agg #[.int .i64 q, .slice am nm cm, .slice av nv cv, .slice ak nk ck]] w (ImpR q2 M2 V2 S2 ok w) := by
  obtain ⟨X, hX⟩ : ∃ X, X = w.heap.size := ⟨_, rfl⟩
  obtain ⟨W, hW⟩ : ∃ W, W = (w.alloc (.cells #[.int .i64 q, .slice am nm cm, .slice av nv cv, .slice ak nk ck] 31)).alloc (.cells #[.int .i64 0, .slice none 0 0, .slice none 0 0, .slice none 0 0] 31) := ⟨_, rfl⟩
  have kW : Below w.heap.size w W := by rw [hW]; exact (((Below.refl _ _).alloc (Nat.le_refl _) _).alloc (by simp; try omega) _)
  have br : Box4 W (X + 1) (.int .i64 0) (.slice none 0 0) (.slice none 0 0) (.slice none 0 0) := by
    have := Box4.new (w.alloc (.cells #[.int .i64 q, .slice am nm cm, .slice av nv cv, .slice ak nk ck] 31)) 31 (.int .i64 0) (.slice none 0 0) (.slice none 0 0) (.slice none 0 0)
    simp only [World.size_alloc] at this
    rw [hW, hX]
    exact this
  have HX : Hid (X = w.heap.size) := hX
  have K0 : Hid (Below w.heap.size w W) := kW
  have CT : Hid (Calls Tryz.prog 42 #[.agg #[.int .i64 q, .slice am nm cm, .slice av nv cv, .slice ak nk ck], .func (.func 43) #[] #[]] W (ImpR q2 M2 V2 S2 ok W)) := by
    try rw [hX]
    exact hC W kW
  have HXL : Hid (X + 1 < W.heap.size) := br.lt
  clear kW hC
  go_enter Tryz.func13, Tryz.ntmps13
  go_wp2_with fail
  rw [← hX, ← hW]
  clear hX hW
  refine CT.out.mono ?_
  rintro e w1 ⟨a1, n1, a2, n2, a3, n3, gs, bs, es, rfl, hR1, hb1⟩
  have K1 : Hid (Below w.heap.size w w1) := K0.out.trans (hb1.mono K0.out.size)
  have HR1 : Hid (ResT W.heap.size w1.heap.size w1 a1 n1 a2 n2 a3 n3 M2 V2 S2 gs bs es) := hR1
  have br1 := br.keep hb1
  have HB1 : Hid (Box4 w1 (X + 1) (.int .i64 0) (.slice none 0 0) (.slice none 0 0) (.slice none 0 0)) := br1
  have r0 := br1.c0
  have r1 := br1.c1
  have r2 := br1.c2
  have r3 := br1.c3
  have rf := br1.fz
  have rz := br1.lt
  clear hb1 br hR1 CT br1
  go_wp2
  refine bodyPost_ret (v := .tuple #[.agg #[.int .i64 q2, .slice a1 n1 n1, .slice a2 n2 n2, .slice a3 n3 n3], .bool ok]) ?_ rfl ⟨a1, n1, a2, n2, a3, n3, gs, bs, es, rfl, ?_, ?_⟩
  · have e := (((HB1.out.set0 (.int .i64 q2)).set1 (.slice a1 n1 n1)).set2 (.slice a2 n2 n2)).set3 (.slice a3 n3 n3)
    simp [results, Tryz.results13, go_sem, e.c0, e.c1, e.c2, e.c3]
  · exact resT_four HR1.out HXL.out K0.out.size (by simp [World.setCell]) _ _ _ _
  · have hx : w.heap.size ≤ X + 1 := by have := HX.out; omega
    exact (((K1.out.setCell (p := ⟨X + 1, 0, none⟩) hx _).setCell (p := ⟨X + 1, 1, none⟩) hx _).setCell (p := ⟨X + 1, 2, none⟩) hx _).setCell (p := ⟨X + 1, 3, none⟩) hx _
def snapL (q : Int) (S : List Int) : List Int := if S.length < 4 ∧ q ∉ S then S ++ [q] else S
def snapO (q : Int) (S : List Int) : Bool := decide (S.length < 4) && !decide (q ∈ S)
theorem snapHow (q : Int) (am : Option Addr) (nm cm : Nat) (a0 a1 a2 : Option Addr) (n0 c0 n1 c1 n2 c2 kb ko nk ck : Nat) (M : List EntD) (A B C : List RunD) (S : List Int) (w : World) (hSh : ShIn w am nm cm a0 n0 c0 a1 n1 c1 a2 n2 c2 (some ⟨kb, ko, none⟩) nk ck M A B C S) (hn : nk ≤ 1000) (hq : (Lit.int .i64 q).wf = true) :
    Calls Tryz.prog 43 #[.agg #[.int .i64 q, .slice am nm cm, .slice a0 n0 c0, .slice a1 n1 c1, .slice a2 n2 c2, .slice (some ⟨kb, ko, none⟩) nk ck]] w fun e w' => (snapO q S = true → HowY q M A B C (S ++ [q]) w e w') ∧ (snapO q S = false → HowN w e w') := by
  refine (implSnap 0 q am nm cm a0 a1 a2 n0 c0 n1 c1 n2 c2 kb ko nk ck S w hSh.sn hn hq).mono ?_
  rintro e w' ⟨g, c, rfl, hI, hb⟩
  have hl := hSh.sn.length
  have hk := hSh.keep hb
  refine ⟨fun h => ⟨am, nm, cm, a0, n0, c0, a1, n1, c1, a2, n2, c2, some ⟨g, 0, none⟩, nk + 1, c, ?_, ⟨hk.mem, hk.r0, hk.r1, hk.r2, hI.lower (Nat.zero_le _)⟩, hb⟩, fun h => ⟨q, am, nm, cm, a0, n0, c0, a1, n1, c1, a2, n2, c2, some ⟨g, 0, none⟩, nk + 1, c, ?_, hb⟩⟩
  · unfold snapO at h
    rw [hl] at h
    rw [h]
  · unfold snapO at h
    rw [hl] at h
    rw [h]
theorem snapBoth (q : Int) (nm nv ns : Nat) (M : List EntD) (V : List (List RunD)) (S : List Int) (hq : (Lit.int .i64 q).wf = true) (hsum : SumOk M V S) (htb : treeB q M V S = true) :
    (∀ (a b c : Nat) (w' : World), TreeIn 0 w' (some ⟨a, 0, none⟩) nm nm (some ⟨b, 0, none⟩) nv nv (some ⟨c, 0, none⟩) ns ns M V S → Calls Tryz.prog 11 #[.agg #[.int .i64 q, .slice (some ⟨a, 0, none⟩) nm nm, .slice (some ⟨b, 0, none⟩) nv nv, .slice (some ⟨c, 0, none⟩) ns ns]] w' (DocR q M V (snapL q S) (snapO q S) w')) ∧
    (∀ (a b c : Nat) (w' : World), TreeIn 0 w' (some ⟨a, 0, none⟩) nm nm (some ⟨b, 0, none⟩) nv nv (some ⟨c, 0, none⟩) ns ns M V S → Calls Tryz.prog 13 #[.agg #[.int .i64 q, .slice (some ⟨a, 0, none⟩) nm nm, .slice (some ⟨b, 0, none⟩) nv nv, .slice (some ⟨c, 0, none⟩) ns ns]] w' (ImpR q M V (snapL q S) (snapO q S) w')) := by
  have hd : snapO q S = decide (S.length < 4 ∧ q ∉ S) := by unfold snapO; simp
  refine ⟨fun a b c w' hT => ?_, fun a b c w' hT => ?_⟩
  · have hl := hT.snaps.length
    refine (specSnap 0 q a nm nm _ nv nv c ns ns M V S w' hT hq htb).mono ?_
    rintro e w'' ⟨h1, h2⟩
    by_cases h : S.length < 4 ∧ q ∉ S
    · rw [hd, decide_eq_true h]
      unfold snapL
      rw [if_pos h]
      obtain ⟨_, _, _, _, _, _, he, hc, hb⟩ := h1 (by rw [← hl]; exact h)
      exact docR_copy he hc hb
    · rw [hd, decide_eq_false h]
      unfold snapL
      rw [if_neg h]
      obtain ⟨_, _, _, _, _, _, he, hc, hb⟩ := h2 (by rw [← hl]; exact h)
      exact docR_copy he hc hb
  · have hsn := (tree_parts htb).2.2.2.2.2.2.1
    have hns : ns ≤ 4 := by
      unfold snapsB at hsn
      rw [Bool.and_eq_true] at hsn
      have h2 := of_decide_eq_true hsn.1
      have h3 := hT.snaps.length
      omega
    refine wrapTreeSnap q _ nm nm _ nv nv _ ns ns q M V (snapL q S) (snapO q S) w' (fun w2 k2 => ?_)
    obtain ⟨b', off, A, B, C, a0, n0, c0, a1, n1, c1, a2, n2, c2, hb', rfl, rfl, hsh, hCS⟩ := (hT.keep k2).share htb
    cases hb'
    have hout := outOk_sum hsum
    by_cases h : S.length < 4 ∧ q ∉ S
    · have ho : snapO q S = true := by rw [hd, decide_eq_true h]
      have hl : snapL q S = S ++ [q] := by unfold snapL; rw [if_pos h]
      rw [ho, hl]
      have hout2 : OutOk M A B C (S ++ [q]) := ⟨hout.bm, by rw [List.length_append]; have := h.1; simp; omega, hout.em, hout.b0, hout.b1, hout.b2, hout.e0, hout.e1, hout.e2⟩
      exact turnedYesSnap q _ nm nm b 0 3 _ ns ns a0 n0 c0 a1 n1 c1 a2 n2 c2 q M A B C (S ++ [q]) w2 hCS (fun w3 k3 => (snapHow q _ nm nm a0 a1 a2 n0 c0 n1 c1 n2 c2 c 0 ns ns M A B C S w3 (hsh.keep k3) (by omega) hq).mono (fun e w4 h4 => h4.1 ho)) hout2
    · have ho : snapO q S = false := by rw [hd, decide_eq_false h]
      have hl : snapL q S = S := by unfold snapL; rw [if_neg h]
      rw [ho, hl]
      exact turnedNotSnap q _ nm nm b 0 3 _ ns ns a0 n0 c0 a1 n1 c1 a2 n2 c2 M A B C S w2 hsh hCS (fun w3 k3 => (snapHow q _ nm nm a0 a1 a2 n0 c0 n1 c1 n2 c2 c 0 ns ns M A B C S w3 (hsh.keep k3) (by omega) hq).mono (fun e w4 h4 => h4.2 ho)) hout
theorem walkFnExactTreeSnap (q1 : Int) (m1 : Option Addr) (nm1 cm1 : Nat) (v1 : Option Addr) (nv1 cv1 : Nat) (k1 : Option Addr) (ns1 cs1 : Nat) (M1 : List EntD) (V1 : List (List RunD)) (S1 : List Int) (w : World) (w0 : (Lit.int .i64 q1).wf = true ∧ TreeIn 0 w m1 nm1 cm1 v1 nv1 cv1 k1 ns1 cs1 M1 V1 S1) :
    Calls Tryz.prog 3 #[.agg #[.int .i64 q1, .slice m1 nm1 cm1, .slice v1 nv1 cv1, .slice k1 ns1 cs1]] w fun e w' => e = .returned (.bool true) ∧ Below w.heap.size w w' := by
  cases htb : treeB q1 M1 V1 S1 with
  | true =>
    refine walkGTreeSnap q1 m1 nm1 cm1 v1 nv1 cv1 k1 ns1 cs1 M1 V1 S1 q1 M1 V1 (snapL q1 S1) (snapO q1 S1) w w0.2 (fun hsum => ?_)
    obtain ⟨h1, h2⟩ := snapBoth q1 nm1 nv1 ns1 M1 V1 S1 w0.1 hsum htb
    have h3 := fits_sum hsum.1
    have h4 := mkV_sz V1
    have h5 := hsum.1
    refine ⟨h1, h2, ?_, fun z hz => ?_⟩
    · unfold snapL
      split
      · rename_i h
        refine ⟨h3.1, h3.2.1, h3.2.2.1, ?_, ?_⟩
        · rw [List.length_append]; simp; omega
        · rw [List.length_append]; simp; omega
      · exact h3
    · unfold snapL at hz
      split at hz
      · rcases List.mem_append.1 hz with h | h
        · exact w0.2.snaps.wfs z h
        · rw [List.mem_singleton] at h; subst h; exact w0.1
      · exact w0.2.snaps.wfs z hz
  | false =>
    refine walkGTreeSnap q1 m1 nm1 cm1 v1 nv1 cv1 k1 ns1 cs1 M1 V1 S1 0 [] [] [] false w w0.2 (fun hsum => ⟨fun a b c w' hT => ?_, fun a b c w' hT => ?_, fits_nil, fun z hz => by cases hz⟩)
    · exact (specSnapNo 0 q1 _ _ _ _ _ _ _ _ _ M1 V1 S1 w' hT htb).mono (fun e w'' h => docR_none h)
    · exact wrapTreeSnap q1 _ _ _ _ _ _ _ _ _ 0 [] [] [] false w' (fun w2 k2 => (turnedNo 0 q1 _ _ _ _ _ _ _ _ _ _ M1 V1 S1 w2 (hT.keep k2) htb).mono (fun e w'' h => impR_none h))
end Go.Proofs.YtlmgojlffgkciaaGreat
