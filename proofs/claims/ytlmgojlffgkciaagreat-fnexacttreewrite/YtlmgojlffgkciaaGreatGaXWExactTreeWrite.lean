/-
  The walk of the law FnExactTreeWrite: it answers true at every tree and list of entries.
-/
import Derived.Test.YtlmgojlffgkciaaGreatGa19
import Derived.Test.YtlmgojlffgkciaaGreatGaXTnWrite
import Derived.Test.YtlmgojlffgkciaaGreatGaXWrI
import Derived.Test.YtlmgojlffgkciaaGreatGaXWrT
import Derived.Test.YtlmgojlffgkciaaGreatGaXWGTreeWrite
namespace Go.Proofs.YtlmgojlffgkciaaGreat
open Go.RowKit
set_option maxRecDepth 100000
set_option maxHeartbeats 4000000
def WrC (q : Int) (M K : List EntD) (A B C : List RunD) (S : List Int) (w : World) (e : Ending) (w' : World) : Prop :=
  (writeO q M K = true → HowY (q + K.length) (sortE (M ++ stL q K)) A B C S w e w') ∧ (writeO q M K = false → HowN w e w')
theorem writeClo (cb1 : Nat) (q : Int) (am : Option Addr) (nm cm : Nat) (a0 : Option Addr) (n0 c0 : Nat) (a1 : Option Addr) (n1 c1 : Nat) (a2 : Option Addr) (n2 c2 : Nat) (ak : Option Addr) (nk ck : Nat) (M : List EntD) (A B C : List RunD) (S : List Int) (ab : Option Addr) (nb cb : Nat) (K : List EntD) (w : World) (hSh : ShIn w am nm cm a0 n0 c0 a1 n1 c1 a2 n2 c2 ak nk ck M A B C S) (hcb : w.cell? ⟨cb1, 0, none⟩ = some (.slice ab nb cb)) (hK : EntsAt w ab nb cb K) (hnb : nb ≤ 1048576) (hnm : nm ≤ 1048576) (hM : SmallE M) (hq0 : 0 ≤ q) (hq1 : q ≤ 100000) :
    Calls Tryz.prog 58 #[.agg #[.int .i64 q, .slice am nm cm, .slice a0 n0 c0, .slice a1 n1 c1, .slice a2 n2 c2, .slice ak nk ck], .pointer (some ⟨cb1, 0, none⟩)] w (WrC q M K A B C S w) := by
  obtain ⟨X, hX⟩ : ∃ X, X = w.heap.size := ⟨_, rfl⟩
  obtain ⟨W, hW⟩ : ∃ W, W = (w.alloc (.cells #[.int .i64 q, .slice am nm cm, .slice a0 n0 c0, .slice a1 n1 c1, .slice a2 n2 c2, .slice ak nk ck] 67)).alloc (.cells #[.int .i64 0, .slice none 0 0, .slice none 0 0, .slice none 0 0, .slice none 0 0, .slice none 0 0] 67) := ⟨_, rfl⟩
  have kW : Below w.heap.size w W := by rw [hW]; exact ((Below.refl _ _).alloc (Nat.le_refl _) _).alloc (by simp) _
  have br : Box6 W (X + 1) (.int .i64 0) (.slice none 0 0) (.slice none 0 0) (.slice none 0 0) (.slice none 0 0) (.slice none 0 0) := by
    have := Box6.new (w.alloc (.cells #[.int .i64 q, .slice am nm cm, .slice a0 n0 c0, .slice a1 n1 c1, .slice a2 n2 c2, .slice ak nk ck] 67)) 67 (.int .i64 0) (.slice none 0 0) (.slice none 0 0) (.slice none 0 0) (.slice none 0 0) (.slice none 0 0)
    rw [World.size_alloc] at this
    rw [hW, hX]
    exact this
  have HX : Hid (X = w.heap.size) := hX
  have K0 : Hid (Below w.heap.size w W) := kW
  have HSH : Hid (ShIn w am nm cm a0 n0 c0 a1 n1 c1 a2 n2 c2 ak nk ck M A B C S) := hSh
  have HXL : Hid (X + 1 < W.heap.size) := br.lt
  have CD : Hid (Calls Tryz.prog 59 #[.agg #[.int .i64 q, .slice am nm cm, .slice a0 n0 c0, .slice a1 n1 c1, .slice a2 n2 c2, .slice ak nk ck], .slice ab nb cb] W (WrR q a0 n0 c0 a1 n1 c1 a2 n2 c2 ak nk ck M K W)) := implWrite q am nm cm a0 n0 c0 a1 n1 c1 a2 n2 c2 ak nk ck M A B C S ab nb cb K W (hSh.keep kW) (hK.keep kW) hnb hnm hM hq0 hq1
  have hcl := World.block_lt_of_cell? _ _ hcb
  simp only at hcl
  clear kW hSh hK hM
  go_enter Tryz.func58, Tryz.ntmps58
  go_wp2_with fail
  rw [← hX, ← hW]
  clear hX hW hcb hcl
  refine CD.out.mono ?_
  rintro e w1 hWR
  cases hwo : writeO q M K with
  | true =>
    obtain ⟨g, n, rfl, hO1, hb1⟩ := hWR.1 hwo
    have HWO : Hid (writeO q M K = true) := hwo
    have HO1 : Hid (OwnE w1 W.heap.size g n n (sortE (M ++ stL q K))) := hO1
    have K1 : Hid (Below w.heap.size w w1) := K0.out.trans (hb1.mono K0.out.size)
    have br1 := br.keep hb1
    have HR1 : Hid (Box6 w1 (X + 1) (.int .i64 0) (.slice none 0 0) (.slice none 0 0) (.slice none 0 0) (.slice none 0 0) (.slice none 0 0)) := br1
    clear hb1 br hO1 hwo hWR CD
    have y0 := br1.c0
    have y1 := br1.c1
    have y2 := br1.c2
    have y3 := br1.c3
    have y4 := br1.c4
    have y5 := br1.c5
    have yf := br1.fz
    have yz := br1.lt
    clear br1
    go_wp2
    have hx : w.heap.size ≤ X + 1 := by have := HX.out; omega
    refine bodyPost_ret (v := .tuple #[.agg #[.int .i64 (q + K.length), .slice (some ⟨g, 0, none⟩) n n, .slice a0 n0 c0, .slice a1 n1 c1, .slice a2 n2 c2, .slice ak nk ck], .bool true]) ?_ rfl (show WrC q M K A B C S w _ _ from ⟨fun _ => ⟨_, _, _, _, _, _, _, _, _, _, _, _, _, _, _, rfl, ⟨?_, (HSH.out.keep ((((((K1.out.setCell (p := ⟨X + 1, 0, none⟩) hx _).setCell (p := ⟨X + 1, 1, none⟩) hx _).setCell (p := ⟨X + 1, 2, none⟩) hx _).setCell (p := ⟨X + 1, 3, none⟩) hx _).setCell (p := ⟨X + 1, 4, none⟩) hx _).setCell (p := ⟨X + 1, 5, none⟩) hx _)).r0, (HSH.out.keep ((((((K1.out.setCell (p := ⟨X + 1, 0, none⟩) hx _).setCell (p := ⟨X + 1, 1, none⟩) hx _).setCell (p := ⟨X + 1, 2, none⟩) hx _).setCell (p := ⟨X + 1, 3, none⟩) hx _).setCell (p := ⟨X + 1, 4, none⟩) hx _).setCell (p := ⟨X + 1, 5, none⟩) hx _)).r1, (HSH.out.keep ((((((K1.out.setCell (p := ⟨X + 1, 0, none⟩) hx _).setCell (p := ⟨X + 1, 1, none⟩) hx _).setCell (p := ⟨X + 1, 2, none⟩) hx _).setCell (p := ⟨X + 1, 3, none⟩) hx _).setCell (p := ⟨X + 1, 4, none⟩) hx _).setCell (p := ⟨X + 1, 5, none⟩) hx _)).r2, (HSH.out.keep ((((((K1.out.setCell (p := ⟨X + 1, 0, none⟩) hx _).setCell (p := ⟨X + 1, 1, none⟩) hx _).setCell (p := ⟨X + 1, 2, none⟩) hx _).setCell (p := ⟨X + 1, 3, none⟩) hx _).setCell (p := ⟨X + 1, 4, none⟩) hx _).setCell (p := ⟨X + 1, 5, none⟩) hx _)).sn⟩, ((((((K1.out.setCell (p := ⟨X + 1, 0, none⟩) hx _).setCell (p := ⟨X + 1, 1, none⟩) hx _).setCell (p := ⟨X + 1, 2, none⟩) hx _).setCell (p := ⟨X + 1, 3, none⟩) hx _).setCell (p := ⟨X + 1, 4, none⟩) hx _).setCell (p := ⟨X + 1, 5, none⟩) hx _)⟩, fun h => by rw [HWO.out] at h; cases h⟩)
    · have e := ((((((HR1.out.set0 (.int .i64 (q + K.length))).set1 (.slice (some ⟨g, 0, none⟩) n n)).set2 (.slice a0 n0 c0)).set3 (.slice a1 n1 c1)).set4 (.slice a2 n2 c2)).set5 (.slice ak nk ck))
      simp [results, Tryz.results58, go_sem, e.c0, e.c1, e.c2, e.c3, e.c4, e.c5]
    · have hxl := HXL.out
      have k6 : ∀ (w' : World) (o : Nat) (u : Value), OwnE w' W.heap.size g n n (sortE (M ++ stL q K)) → OwnE (w'.setCell ⟨X + 1, o, none⟩ u) W.heap.size g n n (sortE (M ++ stL q K)) := fun w' o u h => h.setCell (p := ⟨X + 1, o, none⟩) (by have := h.lt.1; show X + 1 ≠ g; omega) u
      exact (k6 _ _ _ (k6 _ _ _ (k6 _ _ _ (k6 _ _ _ (k6 _ _ _ (k6 _ _ _ HO1.out)))))).entsAt
  | false =>
    obtain ⟨q2, am2, nm2, cm2, a02, n02, c02, a12, n12, c12, a22, n22, c22, ak2, nk2, ck2, rfl, hb1⟩ := hWR.2 hwo
    have HWO : Hid (writeO q M K = false) := hwo
    have K1 : Hid (Below w.heap.size w w1) := K0.out.trans (hb1.mono K0.out.size)
    have br1 := br.keep hb1
    have HR1 : Hid (Box6 w1 (X + 1) (.int .i64 0) (.slice none 0 0) (.slice none 0 0) (.slice none 0 0) (.slice none 0 0) (.slice none 0 0)) := br1
    clear hb1 br hwo hWR CD
    have y0 := br1.c0
    have y1 := br1.c1
    have y2 := br1.c2
    have y3 := br1.c3
    have y4 := br1.c4
    have y5 := br1.c5
    have yf := br1.fz
    have yz := br1.lt
    clear br1
    go_wp2
    have hx : w.heap.size ≤ X + 1 := by have := HX.out; omega
    refine bodyPost_ret (v := .tuple #[.agg #[.int .i64 q2, .slice am2 nm2 cm2, .slice a02 n02 c02, .slice a12 n12 c12, .slice a22 n22 c22, .slice ak2 nk2 ck2], .bool false]) ?_ rfl (show WrC q M K A B C S w _ _ from ⟨(fun h => by rw [HWO.out] at h; cases h), fun _ => ⟨_, _, _, _, _, _, _, _, _, _, _, _, _, _, _, _, rfl, ((((((K1.out.setCell (p := ⟨X + 1, 0, none⟩) hx _).setCell (p := ⟨X + 1, 1, none⟩) hx _).setCell (p := ⟨X + 1, 2, none⟩) hx _).setCell (p := ⟨X + 1, 3, none⟩) hx _).setCell (p := ⟨X + 1, 4, none⟩) hx _).setCell (p := ⟨X + 1, 5, none⟩) hx _)⟩⟩)
    have e := ((((((HR1.out.set0 (.int .i64 q2)).set1 (.slice am2 nm2 cm2)).set2 (.slice a02 n02 c02)).set3 (.slice a12 n12 c12)).set4 (.slice a22 n22 c22)).set5 (.slice ak2 nk2 ck2))
    simp [results, Tryz.results58, go_sem, e.c0, e.c1, e.c2, e.c3, e.c4, e.c5]
theorem wrapTreeWrite (q : Int) (am : Option Addr) (nm cm : Nat) (av : Option Addr) (nv cv : Nat) (ak : Option Addr) (nk ck : Nat) (ab : Option Addr) (nb cb : Nat) (q2 : Int) (M2 : List EntD) (V2 : List (List RunD)) (S2 : List Int) (ok : Bool) (w : World)
    (hC : ∀ w', Below w.heap.size w w' → w'.cell? ⟨w.heap.size + 1, 0, none⟩ = some (.slice ab nb cb) → Calls Tryz.prog 42 #[.agg #[.int .i64 q, .slice am nm cm, .slice av nv cv, .slice ak nk ck], .func (.func 58) #[] #[.pointer (some ⟨w.heap.size + 1, 0, none⟩)]] w' (ImpR q2 M2 V2 S2 ok w')) :
    Calls Tryz.prog 25 #[.agg #[.int .i64 q, .slice am nm cm, .slice av nv cv, .slice ak nk ck], .slice ab nb cb] w (ImpR q2 M2 V2 S2 ok w) := by
  obtain ⟨X, hX⟩ : ∃ X, X = w.heap.size := ⟨_, rfl⟩
  obtain ⟨W, hW⟩ : ∃ W, W = ((w.alloc (.cells #[.int .i64 q, .slice am nm cm, .slice av nv cv, .slice ak nk ck] 31)).alloc (.cells #[.slice ab nb cb] 28)).alloc (.cells #[.int .i64 0, .slice none 0 0, .slice none 0 0, .slice none 0 0] 31) := ⟨_, rfl⟩
  have kW : Below w.heap.size w W := by rw [hW]; exact ((((Below.refl _ _).alloc (Nat.le_refl _) _).alloc (by simp; try omega) _).alloc (by simp; try omega) _)
  have br : Box4 W (X + 1 + 1) (.int .i64 0) (.slice none 0 0) (.slice none 0 0) (.slice none 0 0) := by
    have := Box4.new ((w.alloc (.cells #[.int .i64 q, .slice am nm cm, .slice av nv cv, .slice ak nk ck] 31)).alloc (.cells #[.slice ab nb cb] 28)) 31 (.int .i64 0) (.slice none 0 0) (.slice none 0 0) (.slice none 0 0)
    simp only [World.size_alloc] at this
    rw [hW, hX]
    exact this
  have HX : Hid (X = w.heap.size) := hX
  have K0 : Hid (Below w.heap.size w W) := kW
  have CT : Hid (Calls Tryz.prog 42 #[.agg #[.int .i64 q, .slice am nm cm, .slice av nv cv, .slice ak nk ck], .func (.func 58) #[] #[.pointer (some ⟨X + 1, 0, none⟩)]] W (ImpR q2 M2 V2 S2 ok W)) := by
    try rw [hX]
    exact hC W kW (by rw [hW]; have h1 := cell_one_new' (w.alloc (.cells #[.int .i64 q, .slice am nm cm, .slice av nv cv, .slice ak nk ck] 31)) (.slice ab nb cb) 28 0 _ rfl; rw [Go.WideShapes.add_plain, World.size_alloc] at h1; exact cell_later ((Below.refl _ _).alloc (Nat.le_refl _) _) h1)
  have HXL : Hid (X + 1 + 1 < W.heap.size) := br.lt
  clear kW hC
  go_enter Tryz.func25, Tryz.ntmps25
  go_wp2_with fail
  rw [← hX, ← hW]
  clear hX hW
  refine CT.out.mono ?_
  rintro e w1 ⟨a1, n1, a2, n2, a3, n3, gs, bs, es, rfl, hR1, hb1⟩
  have K1 : Hid (Below w.heap.size w w1) := K0.out.trans (hb1.mono K0.out.size)
  have HR1 : Hid (ResT W.heap.size w1.heap.size w1 a1 n1 a2 n2 a3 n3 M2 V2 S2 gs bs es) := hR1
  have br1 := br.keep hb1
  have HB1 : Hid (Box4 w1 (X + 1 + 1) (.int .i64 0) (.slice none 0 0) (.slice none 0 0) (.slice none 0 0)) := br1
  have r0 := br1.c0
  have r1 := br1.c1
  have r2 := br1.c2
  have r3 := br1.c3
  have rf := br1.fz
  have rz := br1.lt
  clear hb1 br hR1 CT br1
  go_wp2
  refine bodyPost_ret (v := .tuple #[.agg #[.int .i64 q2, .slice a1 n1 n1, .slice a2 n2 n2, .slice a3 n3 n3], .bool ok]) ?_ rfl ⟨a1, n1, a2, n2, a3, n3, gs, bs, es, rfl, ?_, ?_⟩
  · have e := (((HB1.out.set0 (.int .i64 q2)).set1 (.slice a1 n1 n1)).set2 (.slice a2 n2 n2)).set3 (.slice a3 n3 n3)
    simp [results, Tryz.results25, go_sem, e.c0, e.c1, e.c2, e.c3]
  · exact resT_four HR1.out HXL.out K0.out.size (by simp [World.setCell]) _ _ _ _
  · have hx : w.heap.size ≤ X + 1 + 1 := by have := HX.out; omega
    exact (((K1.out.setCell (p := ⟨X + 1 + 1, 0, none⟩) hx _).setCell (p := ⟨X + 1 + 1, 1, none⟩) hx _).setCell (p := ⟨X + 1 + 1, 2, none⟩) hx _).setCell (p := ⟨X + 1 + 1, 3, none⟩) hx _
theorem sortE_right {M : List EntD} (h : rightB M = true) : sortE M = M :=
  (strict_weak (right_strict h) (sort_both M).1 (sort_both M).2.symm).symm
theorem fold_sort {M : List EntD} (h : rightB M = true) (D : List EntD) : D.foldl putE M = sortE (M ++ D) := by
  have e := sortE_right h
  unfold sortE at e ⊢
  rw [List.foldl_append, e]
theorem sort_small {M : List EntD} (h : SmallE M) : SmallE (sortE M) := fun e he => h e ((sort_both M).2.mem_iff.1 he)
theorem stL_small {q : Int} {K : List EntD} (h : SmallE K) : SmallE (stL q K) := fun e he => by
  unfold stL at he
  obtain ⟨i, hi, rfl⟩ := List.mem_mapIdx.1 he
  have h2 := h _ (List.getElem_mem hi)
  exact ⟨h2.1, h2.2⟩
theorem writeBoth (q : Int) (nm nv ns nb : Nat) (M : List EntD) (V : List (List RunD)) (S : List Int) (K : List EntD) (hsum : SumOk M V S) (hnb : nb ≤ 1048576) (hKS : SmallE K) (htb : treeB q M V S = true) :
    (∀ (a b c d : Nat) (w' : World), TreeIn 0 w' (some ⟨a, 0, none⟩) nm nm (some ⟨b, 0, none⟩) nv nv (some ⟨c, 0, none⟩) ns ns M V S → EntsAt w' (some ⟨d, 0, none⟩) nb nb K → Calls Tryz.prog 23 #[.agg #[.int .i64 q, .slice (some ⟨a, 0, none⟩) nm nm, .slice (some ⟨b, 0, none⟩) nv nv, .slice (some ⟨c, 0, none⟩) ns ns], .slice (some ⟨d, 0, none⟩) nb nb] w' (DocR (if writeO q M K = true then q + K.length else q) (if writeO q M K = true then sortE (M ++ stL q K) else M) V S (writeO q M K) w')) ∧
    (∀ (a b c d : Nat) (w' : World), TreeIn 0 w' (some ⟨a, 0, none⟩) nm nm (some ⟨b, 0, none⟩) nv nv (some ⟨c, 0, none⟩) ns ns M V S → EntsAt w' (some ⟨d, 0, none⟩) nb nb K → Calls Tryz.prog 25 #[.agg #[.int .i64 q, .slice (some ⟨a, 0, none⟩) nm nm, .slice (some ⟨b, 0, none⟩) nv nv, .slice (some ⟨c, 0, none⟩) ns ns], .slice (some ⟨d, 0, none⟩) nb nb] w' (ImpR (if writeO q M K = true then q + K.length else q) (if writeO q M K = true then sortE (M ++ stL q K) else M) V S (writeO q M K) w')) := by
  have hp := tree_parts htb
  have hM60 := hp.2.2.1
  have hr := hp.2.2.2.1
  obtain ⟨A, B, C, rfl⟩ := three_of htb
  have hout := outOk_sum hsum
  refine ⟨fun a b c d w' hT hE => ?_, fun a b c d w' hT hE => ?_⟩
  · have hnv : nv = 3 := hT.levels.length.symm
    subst hnv
    have hml := hT.mem.1.length
    refine specTreeWriteG 0 q a nm nm _ 3 c ns ns M [A, B, C] S _ nb nb _ _ _ S (writeO q M K) w' hT htb (fun base g1 c1 G c' g3 c3 w2 hcp hbw hk => ?_)
    refine (specWrite5 base q g1 nm c1 _ 3 c' _ ns c3 M [A, B, C] S _ nb nb K w2 hcp.treeIn hbw hcp.mem (hE.keep hk) hnb (by omega) hp.1 hp.2.1).mono (fun e w3 h3 => ?_)
    cases hf : writeO q M K with
    | true =>
      simp only [if_true]
      have h4 := h3.1 hf
      rw [fold_sort hr] at h4
      exact h4
    | false =>
      simp only [Bool.false_eq_true, if_false]
      exact h3.2 hf
  · have hml := hT.mem.1.length
    refine wrapTreeWrite q _ nm nm _ nv nv _ ns ns _ nb nb _ _ _ S (writeO q M K) w' (fun w2 k2 hc2 => ?_)
    obtain ⟨b', off, A', B', C', a0, n0, c0, a1, n1, c1, a2, n2, c2, hb', rfl, hV', hsh, hCS⟩ := (hT.keep k2).share htb
    cases hb'
    cases hV'
    have hclo : ∀ w3, Below w2.heap.size w2 w3 → Calls Tryz.prog 58 #[.agg #[.int .i64 q, .slice (some ⟨a, 0, none⟩) nm nm, .slice a0 n0 c0, .slice a1 n1 c1, .slice a2 n2 c2, .slice (some ⟨c, 0, none⟩) ns ns], .pointer (some ⟨w'.heap.size + 1, 0, none⟩)] w3 (WrC q M K A B C S w3) := fun w3 k3 =>
      writeClo _ q _ nm nm a0 n0 c0 a1 n1 c1 a2 n2 c2 _ ns ns M A B C S _ nb nb K w3 (hsh.keep k3) (cell_later k3 hc2) ((hE.keep k2).keep k3) hnb (by omega) hout.em hp.1 hp.2.1
    cases hf : writeO q M K with
    | true =>
      simp only [if_true]
      have hlen : K.length ≤ 12 ∧ M.length + K.length ≤ 60 := by
        unfold writeO at hf
        simp only [Bool.and_eq_true, decide_eq_true_eq] at hf
        omega
      have hout2 : OutOk (sortE (M ++ stL q K)) A B C S := ⟨by rw [sortE_len, List.length_append, stL_len]; omega, hout.bk, sort_small (fun e he => by
        rcases List.mem_append.1 he with h | h
        · exact hout.em e h
        · exact stL_small hKS e h), hout.b0, hout.b1, hout.b2, hout.e0, hout.e1, hout.e2⟩
      exact turnedYesWrite (w'.heap.size + 1) q _ nm nm b 0 3 _ ns ns a0 n0 c0 a1 n1 c1 a2 n2 c2 _ _ A B C S w2 hCS (fun w3 k3 => (hclo w3 k3).mono (fun e w4 h4 => h4.1 hf)) hout2
    | false =>
      simp only [Bool.false_eq_true, if_false]
      exact turnedNotWrite (w'.heap.size + 1) q _ nm nm b 0 3 _ ns ns a0 n0 c0 a1 n1 c1 a2 n2 c2 M A B C S w2 hsh hCS (fun w3 k3 => (hclo w3 k3).mono (fun e w4 h4 => h4.2 hf)) hout
theorem walkFnExactTreeWrite (q1 : Int) (m1 : Option Addr) (nm1 cm1 : Nat) (v1 : Option Addr) (nv1 cv1 : Nat) (k1 : Option Addr) (ns1 cs1 : Nat) (M1 : List EntD) (V1 : List (List RunD)) (S1 : List Int) (ab : Option Addr) (nb cb : Nat) (K1 : List EntD) (w : World) (w0 : (Lit.int .i64 q1).wf = true ∧ TreeIn 0 w m1 nm1 cm1 v1 nv1 cv1 k1 ns1 cs1 M1 V1 S1) (w1 : EntsAt w ab nb cb K1) :
    Calls Tryz.prog 6 #[.agg #[.int .i64 q1, .slice m1 nm1 cm1, .slice v1 nv1 cv1, .slice k1 ns1 cs1], .slice ab nb cb] w fun e w' => e = .returned (.bool true) ∧ Below w.heap.size w w' := by
  cases htb : treeB q1 M1 V1 S1 with
  | true =>
    refine walkGTreeWrite q1 m1 nm1 cm1 v1 nv1 cv1 k1 ns1 cs1 M1 V1 S1 ab nb cb K1 (if writeO q1 M1 K1 = true then q1 + K1.length else q1) (if writeO q1 M1 K1 = true then sortE (M1 ++ stL q1 K1) else M1) V1 S1 (writeO q1 M1 K1) w w0.2 w1 (fun hsum hnb hks => ?_)
    obtain ⟨h1, h2⟩ := writeBoth q1 nm1 nv1 ns1 nb M1 V1 S1 K1 hsum hnb hks htb
    refine ⟨h1, h2, ?_, w0.2.snaps.wfs⟩
    have h3 := fits_sum hsum.1
    have h4 := hsum.1
    have h5 := mkV_sz V1
    cases hf : writeO q1 M1 K1 with
    | false => simpa using h3
    | true =>
      have hlen : K1.length ≤ 12 ∧ M1.length + K1.length ≤ 60 := by
        unfold writeO at hf
        simp only [Bool.and_eq_true, decide_eq_true_eq] at hf
        omega
      have hl2 : (sortE (M1 ++ stL q1 K1)).length = M1.length + K1.length := by rw [sortE_len, List.length_append, stL_len]
      simp only [if_true]
      obtain ⟨f1, f2, f3, f4, f5⟩ := h3
      exact ⟨by omega, f2, f3, f4, by omega⟩
  | false =>
    refine walkGTreeWrite q1 m1 nm1 cm1 v1 nv1 cv1 k1 ns1 cs1 M1 V1 S1 ab nb cb K1 0 [] [] [] false w w0.2 w1 (fun hsum hnb hks => ⟨fun a b c d w' hT hE => ?_, fun a b c d w' hT hE => ?_, fits_nil, fun z hz => by cases hz⟩)
    · exact (specWriteNo 0 q1 _ _ _ _ _ _ _ _ _ M1 V1 S1 _ nb nb w' hT htb).mono (fun e w'' h => docR_none h)
    · exact wrapTreeWrite q1 _ _ _ _ _ _ _ _ _ _ nb nb 0 [] [] [] false w' (fun w2 k2 _ => (turnedNo 0 q1 _ _ _ _ _ _ _ _ _ _ M1 V1 S1 w2 (hT.keep k2) htb).mono (fun e w'' h => impR_none h))
end Go.Proofs.YtlmgojlffgkciaaGreat
