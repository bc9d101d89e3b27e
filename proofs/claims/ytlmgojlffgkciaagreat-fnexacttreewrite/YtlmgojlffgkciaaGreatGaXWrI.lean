/-
  The program's write: what it makes of a tree and a list of entries, by a walk of its Go text.
-/
import Derived.Test.YtlmgojlffgkciaaGreatGaXStI
import Derived.Test.YtlmgojlffgkciaaGreatGa19
import Derived.Test.YtlmgojlffgkciaaGreatGaXMgM
import Derived.Test.YtlmgojlffgkciaaGreatGaXEntSz
namespace Go.Proofs.YtlmgojlffgkciaaGreat
open Go.RowKit
set_option maxRecDepth 100000
set_option maxHeartbeats 8000000
def WrR (q : Int) (a0 : Option Addr) (n0 c0 : Nat) (a1 : Option Addr) (n1 c1 : Nat) (a2 : Option Addr) (n2 c2 : Nat) (ak : Option Addr) (nk ck : Nat) (M K : List EntD) (w : World) (e : Ending) (w' : World) : Prop :=
  (writeO q M K = true → ∃ g n, e = .returned (.tuple #[.agg #[.int .i64 (q + K.length), .slice (some ⟨g, 0, none⟩) n n, .slice a0 n0 c0, .slice a1 n1 c1, .slice a2 n2 c2, .slice ak nk ck], .bool true]) ∧ OwnE w' w.heap.size g n n (sortE (M ++ stL q K)) ∧ Below w.heap.size w w') ∧ (writeO q M K = false → HowN w e w')
theorem stampI_got {q : Int} {K : List EntD} {n : Nat} {w w' : World} {e : Ending} (h : StampI q K n w e w') (hl : K.length = n) : ∃ a5 n5 c5 L5 ok, e = .returned (.tuple #[.slice a5 n5 c5, .bool ok]) ∧ OwnO w' w.heap.size a5 n5 c5 L5 ∧ n5 ≤ n ∧ SmallE L5 ∧ (ok = true → n5 = n ∧ L5 = stL q K ∧ stampB q K = true ∧ 0 < n) ∧ (ok = false → stampB q K = false ∨ n = 0) ∧ Below w.heap.size w w' := by
  obtain ⟨v, ok, he, h1, h2, h3⟩ := h
  cases hs : stampB q K with
  | true =>
    obtain ⟨⟨a, c, rfl, h4⟩, rfl⟩ := h1 hs
    refine ⟨a, n, c, _, _, he, h4, Nat.le_refl _, fun x hx => ?_, fun h => ⟨rfl, rfl, rfl, of_decide_eq_true h⟩, fun h => .inr ?_, h3⟩
    · obtain ⟨j, hj, rfl⟩ := List.getElem_of_mem hx
      exact entB_sizes (stamp_ent hs (List.getElem?_eq_getElem hj))
    · have := of_decide_eq_false h
      omega
  | false =>
    obtain ⟨rfl, rfl⟩ := h2 hs
    exact ⟨none, 0, 0, [], false, he, OwnO.none _ _, Nat.zero_le _, (fun x hx => by cases hx), (fun h => by cases h), fun _ => .inl rfl, h3⟩
theorem implWrite (q : Int) (am : Option Addr) (nm cm : Nat) (a0 : Option Addr) (n0 c0 : Nat) (a1 : Option Addr) (n1 c1 : Nat) (a2 : Option Addr) (n2 c2 : Nat) (ak : Option Addr) (nk ck : Nat) (M : List EntD) (A B C : List RunD) (S : List Int) (ab : Option Addr) (nb cb : Nat) (K : List EntD) (w : World) (hSh : ShIn w am nm cm a0 n0 c0 a1 n1 c1 a2 n2 c2 ak nk ck M A B C S) (hK : EntsAt w ab nb cb K) (hnb : nb ≤ 1048576) (hnm : nm ≤ 1048576) (hM : SmallE M) (hq0 : 0 ≤ q) (hq1 : q ≤ 100000) :
    Calls Tryz.prog 59 #[.agg #[.int .i64 q, .slice am nm cm, .slice a0 n0 c0, .slice a1 n1 c1, .slice a2 n2 c2, .slice ak nk ck], .slice ab nb cb] w (WrR q a0 n0 c0 a1 n1 c1 a2 n2 c2 ak nk ck M K w) := by
  obtain ⟨X, hX⟩ : ∃ X, X = w.heap.size := ⟨_, rfl⟩
  obtain ⟨W, hW⟩ : ∃ W, W = (w.alloc (.cells #[.int .i64 q, .slice am nm cm, .slice a0 n0 c0, .slice a1 n1 c1, .slice a2 n2 c2, .slice ak nk ck] 67)).alloc (.cells #[.int .i64 0, .slice none 0 0, .slice none 0 0, .slice none 0 0, .slice none 0 0, .slice none 0 0] 67) := ⟨_, rfl⟩
  have kW : Below w.heap.size w W := by rw [hW]; exact ((Below.refl _ _).alloc (Nat.le_refl _) _).alloc (by simp) _
  have bx : Box6 W X (.int .i64 q) (.slice am nm cm) (.slice a0 n0 c0) (.slice a1 n1 c1) (.slice a2 n2 c2) (.slice ak nk ck) := by rw [hW, hX]; exact (Box6.new _ _ _ _ _ _ _ _).alloc _
  have br : Box6 W (X + 1) (.int .i64 0) (.slice none 0 0) (.slice none 0 0) (.slice none 0 0) (.slice none 0 0) (.slice none 0 0) := by
    have := Box6.new (w.alloc (.cells #[.int .i64 q, .slice am nm cm, .slice a0 n0 c0, .slice a1 n1 c1, .slice a2 n2 c2, .slice ak nk ck] 67)) 67 (.int .i64 0) (.slice none 0 0) (.slice none 0 0) (.slice none 0 0) (.slice none 0 0) (.slice none 0 0)
    rw [World.size_alloc] at this
    rw [hW, hX]
    exact this
  have HX : Hid (X = w.heap.size) := hX
  have HSZ : Hid (W.heap.size = X + 1 + 1) := by show _ = _; rw [hW, hX]; simp
  have K0 : Hid (Below w.heap.size w W) := kW
  have HSH : Hid (ShIn w am nm cm a0 n0 c0 a1 n1 c1 a2 n2 c2 ak nk ck M A B C S) := hSh
  have HKL : Hid (K.length = nb) := hK.length
  have HML : Hid (M.length = nm) := hSh.mem.length
  have HSM : Hid (SmallE M) := hM
  have CT : Hid (Calls Tryz.prog 95 #[.slice ab nb cb, .int .i64 q] W (StampI q K nb W)) := implTimed ab nb cb K q W (hK.keep kW) hnb hq0 hq1
  have HR : Hid (Box6 W (X + 1) (.int .i64 0) (.slice none 0 0) (.slice none 0 0) (.slice none 0 0) (.slice none 0 0) (.slice none 0 0)) := br
  clear kW hSh hK hM br
  have e1 : IntKind.i64.wrap ((nm : Int) + (nb : Int)) = (nm : Int) + (nb : Int) := by rw [IntWalk.i64_left]; unfold wrap64; omega
  go_enter Tryz.func59, Tryz.ntmps59
  go_upto_region 1 with fail
  rw [← hX, ← hW]
  clear hX hW
  have x0 := bx.c0
  have x1 := bx.c1
  have x2 := bx.c2
  have x3 := bx.c3
  have x4 := bx.c4
  have x5 := bx.c5
  have xf := bx.fz
  have xz := bx.lt
  have r0 := HR.out.c0
  have r1 := HR.out.c1
  have r2 := HR.out.c2
  have r3 := HR.out.c3
  have r4 := HR.out.c4
  have r5 := HR.out.c5
  have rf := HR.out.fz
  have rz := HR.out.lt
  by_cases h12 : 12 < nb
  · have h12I : (nb : Int) > 12 := by omega
    have h12J : (12 : Int) < (nb : Int) := by omega
    have HNO : Hid (writeO q M K = false) := by show _ = _; have := HKL.out; unfold writeO; rw [this]; simp [show ¬ nb ≤ 12 by omega]
    go_wp2
    refine bodyPost_ret (v := .tuple #[.agg #[.int .i64 q, .slice am nm cm, .slice a0 n0 c0, .slice a1 n1 c1, .slice a2 n2 c2, .slice ak nk ck], .bool false]) ?_ rfl (show WrR q a0 n0 c0 a1 n1 c1 a2 n2 c2 ak nk ck M K w _ _ from ⟨(fun h => by rw [HNO.out] at h; cases h), fun _ => ⟨_, _, _, _, _, _, _, _, _, _, _, _, _, _, _, _, rfl, ?_⟩⟩)
    · have e := ((((((HR.out.set0 (.int .i64 q)).set1 (.slice am nm cm)).set2 (.slice a0 n0 c0)).set3 (.slice a1 n1 c1)).set4 (.slice a2 n2 c2)).set5 (.slice ak nk ck))
      simp [results, Tryz.results59, go_sem, e.c0, e.c1, e.c2, e.c3, e.c4, e.c5]
    · have hx : w.heap.size ≤ X + 1 := by have := HX.out; omega
      exact ((((((K0.out.setCell (p := ⟨X + 1, 0, none⟩) hx _).setCell (p := ⟨X + 1, 1, none⟩) hx _).setCell (p := ⟨X + 1, 2, none⟩) hx _).setCell (p := ⟨X + 1, 3, none⟩) hx _).setCell (p := ⟨X + 1, 4, none⟩) hx _).setCell (p := ⟨X + 1, 5, none⟩) hx _)
  have h12I : ¬ (nb : Int) > 12 := by omega
  have h12J : ¬ (12 : Int) < (nb : Int) := by omega
  by_cases h60 : 60 < nm + nb
  · have h60I : (nm : Int) + (nb : Int) > 60 := by omega
    have h60J : (60 : Int) < (nm : Int) + (nb : Int) := by omega
    have HNO : Hid (writeO q M K = false) := by show _ = _; have := HKL.out; have := HML.out; unfold writeO; simp [show ¬ M.length + K.length ≤ 60 by omega]
    go_wp2
    refine bodyPost_ret (v := .tuple #[.agg #[.int .i64 q, .slice am nm cm, .slice a0 n0 c0, .slice a1 n1 c1, .slice a2 n2 c2, .slice ak nk ck], .bool false]) ?_ rfl (show WrR q a0 n0 c0 a1 n1 c1 a2 n2 c2 ak nk ck M K w _ _ from ⟨(fun h => by rw [HNO.out] at h; cases h), fun _ => ⟨_, _, _, _, _, _, _, _, _, _, _, _, _, _, _, _, rfl, ?_⟩⟩)
    · have e := ((((((HR.out.set0 (.int .i64 q)).set1 (.slice am nm cm)).set2 (.slice a0 n0 c0)).set3 (.slice a1 n1 c1)).set4 (.slice a2 n2 c2)).set5 (.slice ak nk ck))
      simp [results, Tryz.results59, go_sem, e.c0, e.c1, e.c2, e.c3, e.c4, e.c5]
    · have hx : w.heap.size ≤ X + 1 := by have := HX.out; omega
      exact ((((((K0.out.setCell (p := ⟨X + 1, 0, none⟩) hx _).setCell (p := ⟨X + 1, 1, none⟩) hx _).setCell (p := ⟨X + 1, 2, none⟩) hx _).setCell (p := ⟨X + 1, 3, none⟩) hx _).setCell (p := ⟨X + 1, 4, none⟩) hx _).setCell (p := ⟨X + 1, 5, none⟩) hx _)
  have h60I : ¬ (nm : Int) + (nb : Int) > 60 := by omega
  have h60J : ¬ (60 : Int) < (nm : Int) + (nb : Int) := by omega
  clear r0 r1 r2 r3 r4 r5 rf rz
  go_wp2_with fail
  clear x0 x1 x2 x3 x4 x5 xf xz
  refine CT.out.mono ?_
  rintro e w1 hst
  obtain ⟨a5, n5, c5, L5, ok, rfl, hO1, hn5, hs5, hy5, hno5, hb1⟩ := stampI_got hst HKL.out
  have K1 : Hid (Below W.heap.size W w1) := hb1
  have HO1 : Hid (OwnO w1 W.heap.size a5 n5 c5 L5) := hO1
  have HS5 : Hid (SmallE L5) := hs5
  have HY5 : Hid (ok = true → n5 = nb ∧ L5 = stL q K ∧ stampB q K = true ∧ 0 < nb) := hy5
  have HN5 : Hid (ok = false → stampB q K = false ∨ nb = 0) := hno5
  have bx1 := bx.keep hb1
  have BR1 : Hid (Box6 w1 (X + 1) (.int .i64 0) (.slice none 0 0) (.slice none 0 0) (.slice none 0 0) (.slice none 0 0) (.slice none 0 0)) := HR.out.keep hb1
  clear hst hO1 hs5 hy5 hno5 hb1 bx HR CT
  have e2 : IntKind.i64.wrap (q + (n5 : Int)) = q + (n5 : Int) := by rw [IntWalk.i64_left]; unfold wrap64; omega
  have x0 := bx1.c0
  have x1 := bx1.c1
  have x2 := bx1.c2
  have x3 := bx1.c3
  have x4 := bx1.c4
  have x5 := bx1.c5
  have xf := bx1.fz
  have xz := bx1.lt
  obtain ⟨w2, hw2⟩ : ∃ w2, w2 = w1.setCell ⟨X, 0, none⟩ (.int .i64 (q + (n5 : Int))) := ⟨_, rfl⟩
  go_upto_region 5 with fail
  rw [← hw2]
  have hx := HX.out
  have hs := HSZ.out
  have bx2 : Box6 w2 X (.int .i64 (q + (n5 : Int))) (.slice am nm cm) (.slice a0 n0 c0) (.slice a1 n1 c1) (.slice a2 n2 c2) (.slice ak nk ck) := by rw [hw2]; exact bx1.set0 _
  have BR2 : Hid (Box6 w2 (X + 1) (.int .i64 0) (.slice none 0 0) (.slice none 0 0) (.slice none 0 0) (.slice none 0 0) (.slice none 0 0)) := by rw [hw2]; exact BR1.out.other (by omega) _
  have kk2 : KeepO w.heap.size W.heap.size w1 w2 := by rw [hw2]; exact (setK _ X 0 _).mono (by omega) (by omega)
  have K2 : Hid (Below w.heap.size w w2) := by rw [hw2]; exact (K0.out.trans (K1.out.mono K0.out.size)).setCell (p := ⟨X, 0, none⟩) (by show _ ≤ X; omega) _
  have HO2 : Hid (OwnO w2 W.heap.size a5 n5 c5 L5) := ⟨HO1.out.nil, fun x e => by
    obtain ⟨g, rfl, h2⟩ := HO1.out.own x e
    exact ⟨g, rfl, kk2.own h2 (.inr h2.lt.1)⟩⟩
  have HW2 : Hid (W.heap.size ≤ w2.heap.size) := Nat.le_trans K1.out.size kk2.size
  clear hw2 x0 x1 x2 x3 x4 x5 xf xz bx1 BR1 kk2 HO1 K1 hx hs
  obtain ⟨W3, hW3⟩ : ∃ W3, W3 = w2.alloc (.cells #[.slice am nm cm, .slice a5 n5 c5] 28) := ⟨_, rfl⟩
  have k3 : Below w2.heap.size w2 W3 := by rw [hW3]; exact (Below.refl _ _).alloc (Nat.le_refl _) _
  have hP : PartsAt W3 (some ⟨w2.heap.size, 0, none⟩) 2 2 [M, L5] := by
    have hc : ∀ j u, [Value.slice am nm cm, Value.slice a5 n5 c5][j]? = some u → W3.cell? ⟨w2.heap.size, j, none⟩ = some u := by
      intro j u hj
      rw [hW3]
      match j, hj with
      | 0, hj => simp at hj; subst hj; simp
      | 1, hj => simp at hj; subst hj; simp
    refine ⟨rfl, Nat.le_refl _, by unfold maxLen; omega, (fun e => by cases e), (fun x e _ => by cases e; exact ⟨World.block_lt_of_cell? _ _ (hc 0 _ rfl), rfl⟩), ?_⟩
    rintro x e i hi
    cases e
    match i, hi with
    | 0, _ => exact ⟨am, nm, cm, by simpa using hc 0 _ rfl, ((HSH.out.keep K2.out).keep k3).mem⟩
    | 1, _ => exact ⟨a5, n5, c5, by simpa using hc 1 _ rfl, (HO2.out.below k3).entsAt⟩
  have hfl : [M, L5].flatten = M ++ L5 := by simp
  have hln : (M ++ L5).length = nm + n5 := by rw [List.length_append, HML.out, HO2.out.len]
  have CM : Hid (Calls Tryz.prog 69 #[.slice (some ⟨w2.heap.size, 0, none⟩) 2 2] W3 fun e w' => ∃ g, e = .returned (.slice (some ⟨g, 0, none⟩) (nm + n5) (nm + n5)) ∧ OwnE w' W3.heap.size g (nm + n5) (nm + n5) (sortE (M ++ L5)) ∧ Below W3.heap.size W3 w') := by
    have h := callsIn_wide.1 (implMerge _ _ _ [M, L5] W3 hP (by omega) (by rw [hfl, hln]; omega) (by
      intro e he
      rw [hfl] at he
      rcases List.mem_append.1 he with h | h
      · exact HSM.out e h
      · exact HS5.out e h))
    refine h.mono ?_
    rintro e w' ⟨⟨g, h1, h2⟩, h3⟩
    rw [hfl, hln] at h1 h2
    exact ⟨g, h1, h2, h3⟩
  have K3 : Hid (Below w2.heap.size w2 W3) := k3
  clear k3 hP hfl hln
  have x0 := bx2.c0
  have x1 := bx2.c1
  have x2 := bx2.c2
  have x3 := bx2.c3
  have x4 := bx2.c4
  have x5 := bx2.c5
  have xf := bx2.fz
  have xz := bx2.lt
  go_wp2_with fail
  rw [← hW3]
  clear hW3 x0 x1 x2 x3 x4 x5 xf xz
  refine CM.out.mono ?_
  rintro e w4 ⟨g, rfl, hO4, hb4⟩
  have hk4 : Below w2.heap.size w2 w4 := K3.out.trans (hb4.mono K3.out.size)
  have K4 : Hid (Below w.heap.size w w4) := K2.out.trans (hk4.mono K2.out.size)
  have HO4 : Hid (OwnE w4 W.heap.size g (nm + n5) (nm + n5) (sortE (M ++ L5))) := hO4.mono (Nat.le_trans HW2.out K3.out.size)
  have bx4 := bx2.keep hk4
  have BR4 : Hid (Box6 w4 (X + 1) (.int .i64 0) (.slice none 0 0) (.slice none 0 0) (.slice none 0 0) (.slice none 0 0) (.slice none 0 0)) := BR2.out.keep hk4
  clear hO4 hb4 hk4 bx2 BR2 CM HO2 K3
  obtain ⟨w5, hw5⟩ : ∃ w5, w5 = w4.setCell ⟨X, 1, none⟩ (.slice (some ⟨g, 0, none⟩) (nm + n5) (nm + n5)) := ⟨_, rfl⟩
  have hx := HX.out
  have hs := HSZ.out
  have bx5 : Box6 w5 X (.int .i64 (q + (n5 : Int))) (.slice (some ⟨g, 0, none⟩) (nm + n5) (nm + n5)) (.slice a0 n0 c0) (.slice a1 n1 c1) (.slice a2 n2 c2) (.slice ak nk ck) := by rw [hw5]; exact bx4.set1 _
  have BR5 : Hid (Box6 w5 (X + 1) (.int .i64 0) (.slice none 0 0) (.slice none 0 0) (.slice none 0 0) (.slice none 0 0) (.slice none 0 0)) := by rw [hw5]; exact BR4.out.other (by omega) _
  have K5 : Hid (Below w.heap.size w w5) := by rw [hw5]; exact K4.out.setCell (p := ⟨X, 1, none⟩) (by show _ ≤ X; omega) _
  have HO5 : Hid (OwnE w5 W.heap.size g (nm + n5) (nm + n5) (sortE (M ++ L5))) := by
    have k : KeepO w.heap.size W.heap.size w4 w5 := by rw [hw5]; exact (setK _ X 1 _).mono (by omega) (by omega)
    exact k.own HO4.out (.inr HO4.out.lt.1)
  clear hx hs
  have x0 := bx4.c0
  have x1 := bx4.c1
  have x2 := bx4.c2
  have x3 := bx4.c3
  have x4 := bx4.c4
  have x5 := bx4.c5
  have xf := bx4.fz
  have xz := bx4.lt
  go_upto_region 6 with fail
  rw [← hw5]
  clear hw5 x0 x1 x2 x3 x4 x5 xf xz bx4 HO4 K4 BR4
  have x0 := bx5.c0
  have x1 := bx5.c1
  have x2 := bx5.c2
  have x3 := bx5.c3
  have x4 := bx5.c4
  have x5 := bx5.c5
  have xf := bx5.fz
  have xz := bx5.lt
  have r0 := BR5.out.c0
  have r1 := BR5.out.c1
  have r2 := BR5.out.c2
  have r3 := BR5.out.c3
  have r4 := BR5.out.c4
  have r5 := BR5.out.c5
  have rf := BR5.out.fz
  have rz := BR5.out.lt
  go_wp2
  have hx : w.heap.size ≤ X + 1 := by have := HX.out; omega
  have hs := HSZ.out
  have hx0 := HX.out
  refine bodyPost_ret (v := .tuple #[.agg #[.int .i64 (q + (n5 : Int)), .slice (some ⟨g, 0, none⟩) (nm + n5) (nm + n5), .slice a0 n0 c0, .slice a1 n1 c1, .slice a2 n2 c2, .slice ak nk ck], .bool ok]) ?_ rfl (show WrR q a0 n0 c0 a1 n1 c1 a2 n2 c2 ak nk ck M K w _ _ from ?_)
  · have e := ((((((BR5.out.set0 (.int .i64 (q + (n5 : Int)))).set1 (.slice (some ⟨g, 0, none⟩) (nm + n5) (nm + n5))).set2 (.slice a0 n0 c0)).set3 (.slice a1 n1 c1)).set4 (.slice a2 n2 c2)).set5 (.slice ak nk ck))
    simp [results, Tryz.results59, go_sem, e.c0, e.c1, e.c2, e.c3, e.c4, e.c5]
  · cases ok with
    | true =>
      obtain ⟨rfl, rfl, hsB, hpos⟩ := HY5.out rfl
      have hkl := HKL.out
      have hml := HML.out
      refine ⟨fun _ => ?_, fun h => absurd h ?_⟩
      · rw [hkl]
        refine ⟨_, _, rfl, ?_, ((((((K5.out.setCell (p := ⟨X + 1, 0, none⟩) hx _).setCell (p := ⟨X + 1, 1, none⟩) hx _).setCell (p := ⟨X + 1, 2, none⟩) hx _).setCell (p := ⟨X + 1, 3, none⟩) hx _).setCell (p := ⟨X + 1, 4, none⟩) hx _).setCell (p := ⟨X + 1, 5, none⟩) hx _)⟩
        have k6 : ∀ (w' : World) (o : Nat) (u : Value), OwnE w' W.heap.size g (nm + n5) (nm + n5) (sortE (M ++ stL q K)) → OwnE (w'.setCell ⟨X + 1, o, none⟩ u) W.heap.size g (nm + n5) (nm + n5) (sortE (M ++ stL q K)) := fun w' o u h => ((setK w' (X + 1) o u).mono (lo' := w.heap.size) (hi' := W.heap.size) (by omega) (by omega)).own h (.inr h.lt.1)
        exact (k6 _ _ _ (k6 _ _ _ (k6 _ _ _ (k6 _ _ _ (k6 _ _ _ (k6 _ _ _ HO5.out)))))).mono (by omega)
      · unfold writeO
        rw [hkl, hml, hsB]
        simp
        omega
    | false =>
      have hno := HN5.out rfl
      have hkl := HKL.out
      refine ⟨fun h => absurd h ?_, fun _ => ⟨_, _, _, _, _, _, _, _, _, _, _, _, _, _, _, _, rfl, ((((((K5.out.setCell (p := ⟨X + 1, 0, none⟩) hx _).setCell (p := ⟨X + 1, 1, none⟩) hx _).setCell (p := ⟨X + 1, 2, none⟩) hx _).setCell (p := ⟨X + 1, 3, none⟩) hx _).setCell (p := ⟨X + 1, 4, none⟩) hx _).setCell (p := ⟨X + 1, 5, none⟩) hx _)⟩⟩
      unfold writeO
      rw [hkl]
      rcases hno with h | h
      · rw [h]; simp
      · simp [h]
end Go.Proofs.YtlmgojlffgkciaaGreat
