/-
  What the document's l1Leg answers at every text, by a walk of its Go text.
-/
import Derived.Test.YtcabinakcmpkeaaDoorCutW
import Derived.Test.YtcabinakcmpkeaaDoorLegs
namespace Go.Proofs.YtcabinakcmpkeaaDoor
open Go.RowKit

theorem cut_small (c : UInt8) : ∀ (l : List UInt8), ∀ p ∈ cutL c l, p.length ≤ l.length
  | [], p, hp => by simp [cutL] at hp; simp [hp]
  | x :: r, p, hp => by
    have ih := cut_small c r
    rw [cutL] at hp
    split at hp
    · rcases List.mem_cons.1 hp with rfl | h
      · simp
      · have := ih p h; simp; omega
    · split at hp
      · simp only [List.mem_cons, List.not_mem_nil, or_false] at hp
        subst hp
        simp
      · rename_i h t ht
        rw [ht] at ih
        rcases List.mem_cons.1 hp with rfl | h'
        · have := ih h (by simp); simp; omega
        · have := ih p (by simp [h']); simp; omega
theorem wf_num {n : Int} (h0 : -100000000000000000 ≤ n) (h1 : n ≤ 100000000000000000) : (Lit.int .i64 n).wf = true := by
  have e1 : IntKind.i64.min = -9223372036854775808 := by decide
  have e2 : IntKind.i64.max = 9223372036854775807 := by decide
  simp [Lit.wf]
  omega
theorem str_sizeC (a : List UInt8) : (⟨a.toArray⟩ : ByteArray).size = a.length := by show a.toArray.size = _; simp
theorem strs_cell {w : World} {B : Nat} {v : Value} {A : List (List UInt8)} (h : w.ownsRow B 9 1 v A.length (strs A)) (hA : 0 < A.length) : ∃ g cap, v = .slice (some ⟨g, 0, none⟩) A.length cap ∧ B ≤ g ∧ g < w.heap.size ∧ A.length ≤ cap ∧ ∀ k l, A[k]? = some l → w.cell? ⟨g, k, none⟩ = some (.string ⟨l.toArray⟩) := by
  rcases h.2 with ⟨_, h0⟩ | ⟨g, cap, cur, hv, r⟩
  · omega
  · have hl := h.lt g (by rw [hv]; rfl)
    refine ⟨g, cap, hv, hl.1, hl.2, ?_, fun k l hk => ?_⟩
    · have := r.2.2
      omega
    · have := h.cells (g := g) (by rw [hv]; rfl) k (.string ⟨l.toArray⟩) (by simp [strs, hk])
      have ea : (⟨g, 0, none⟩ : Addr).add k = ⟨g, k, none⟩ := (WideShapes.add_plain g 0 k).trans (by simp)
      rw [ea] at this
      exact this

def LegE (l : List UInt8) (e : Ending) : Prop := ∃ a cu n b, e = .returned (.tuple #[.agg #[.string a, .int .i64 cu, .int .i64 n], .bool b]) ∧ LegW (a, cu, n) ∧ (∀ g, legB g = true → l = legQ g → (a, cu, n) = g ∧ b = true)

set_option maxHeartbeats 4000000 in
set_option maxRecDepth 100000 in
theorem specLegRd (s : ByteArray) (w : World) (hs : s.size ≤ 1048576) :
    Calls Tryd.prog 43 #[.string s] w fun e w' => LegE s.data.toList e ∧ Below w.heap.size w w' := by
  obtain ⟨W0, hW0⟩ : ∃ W0, W0 = w.alloc (.cells #[.string ⟨#[]⟩, .int .i64 0, .int .i64 0] 58) := ⟨_, rfl⟩
  have KW : Below w.heap.size w W0 := by rw [hW0]; exact (Below.refl _ _).alloc (Nat.le_refl _) _
  have r0 : W0.cell? ⟨w.heap.size, 0, none⟩ = some (.string ⟨#[]⟩) := by rw [hW0]; simp
  have r1 : W0.cell? ⟨w.heap.size, 1, none⟩ = some (.int .i64 0) := by rw [hW0]; simp
  have r2 : W0.cell? ⟨w.heap.size, 2, none⟩ = some (.int .i64 0) := by rw [hW0]; simp
  have rf : ∀ o, W0.frozen? ⟨w.heap.size, o, none⟩ = false := by rw [hW0]; exact fun o => World.frozen?_alloc_new w _ _ o
  have HKW : Hid (Below w.heap.size w W0) := KW
  have hl0 : w.heap.size < W0.heap.size := World.block_lt_of_cell? _ _ r0
  obtain ⟨A, hA⟩ : ∃ A, A = cutL 58 s.data.toList := ⟨_, rfl⟩
  have EA : Hid (A = cutL 58 s.data.toList) := hA
  have CC : Hid (Calls Tryd.prog 41 #[.string s, .int .u8 58] W0 fun e w' => ∃ v, e = .returned v ∧ w'.ownsRow W0.heap.size 9 1 v A.length (strs A) ∧ Below W0.heap.size W0 w') := by
    rw [hA]
    exact specCutW s 58 W0 hs
  have hA1 : 1 ≤ A.length := by rw [hA]; exact cut_ne _ _
  have HSM : Hid (∀ p ∈ A, p.length ≤ 1048576) := fun p hp => by
    rw [hA] at hp
    have := cut_small 58 _ p hp
    rw [show s.data.toList.length = s.size by rw [Array.length_toList]; rfl] at this
    omega
  clear hA KW
  go_enter Tryd.func43, Tryd.ntmps43
  go_wp2_with fail
  rw [← hW0]
  clear hW0
  refine CC.out.mono ?_
  rintro e w1 ⟨v, rfl, ho, hb1⟩
  obtain ⟨g, cap, rfl, hg0, hg1, hcap, hcell⟩ := strs_cell ho (by omega)
  have q0 := cell_later hb1 r0
  have q1 := cell_later hb1 r1
  have q2 := cell_later hb1 r2
  have qf : ∀ o, w1.frozen? ⟨w.heap.size, o, none⟩ = false := fun o => (hb1.frozen (p := ⟨w.heap.size, o, none⟩) hl0).trans (rf o)
  have qf0 := qf 0
  have qf1 := qf 1
  have qf2 := qf 2
  have ql : w.heap.size < w1.heap.size := World.block_lt_of_cell? _ _ q0
  have HB1 : Hid (Below w.heap.size w w1) := HKW.out.trans (hb1.mono HKW.out.size)
  have HCELL : Hid (∀ k l, A[k]? = some l → w1.cell? ⟨g, k, none⟩ = some (.string ⟨l.toArray⟩)) := hcell
  clear hb1 r0 r1 r2 rf qf CC ho hcell hl0
  by_cases h3 : A.length = 3
  · obtain ⟨x, y, z, rfl⟩ : ∃ x y z, A = [x, y, z] := by
      match A, h3 with
      | [x, y, z], _ => exact ⟨x, y, z, rfl⟩
    have k0 := HCELL.out 0 x rfl
    have k1 := HCELL.out 1 y rfl
    have k2 := HCELL.out 2 z rfl
    have hx := HSM.out x (by simp)
    have hy := HSM.out y (by simp)
    have hzz := HSM.out z (by simp)
    have CY : Hid (∀ w', Calls Tryd.prog 42 #[.string ⟨y.toArray⟩] w' fun e w'' => NumE y e ∧ w' = w'') := fun w' => by
      have := specNum ⟨y.toArray⟩ w' (by rw [str_sizeC]; exact hy)
      simpa using this
    have CZ : Hid (∀ w', Calls Tryd.prog 42 #[.string ⟨z.toArray⟩] w' fun e w'' => NumE z e ∧ w' = w'') := fun w' => by
      have := specNum ⟨z.toArray⟩ w' (by rw [str_sizeC]; exact hzz)
      simpa using this
    obtain ⟨sx, hsx⟩ : ∃ sx : ByteArray, sx = ⟨x.toArray⟩ := ⟨_, rfl⟩
    obtain ⟨sy, hsy⟩ : ∃ sy : ByteArray, sy = ⟨y.toArray⟩ := ⟨_, rfl⟩
    obtain ⟨sz, hsz⟩ : ∃ sz : ByteArray, sz = ⟨z.toArray⟩ := ⟨_, rfl⟩
    rw [← hsx] at k0
    rw [← hsy] at k1 CY
    rw [← hsz] at k2 CZ
    have ESX : Hid (sx = ⟨x.toArray⟩) := hsx
    have hc3 : 3 ≤ cap := by simpa using hcap
    have h3l : ([x, y, z] : List (List UInt8)).length = 3 := rfl
    rw [h3l]
    clear hsx hsy hsz hcap h3 hA1
    go_wp2_with fail
    refine (CY.out _).mono ?_
    rintro e w2 ⟨⟨n1, b1, rfl, hN1⟩, rfl⟩
    have HN1 : Hid (NumR y n1 b1) := hN1
    clear hN1
    go_wp2_with fail
    refine (CZ.out _).mono ?_
    rintro e w2 ⟨⟨n2, b2, rfl, hN2⟩, rfl⟩
    have HN2 : Hid (NumR z n2 b2) := hN2
    clear hN2
    have HREL : Hid (LegW (sx, n1, n2) ∧ (∀ g, legB g = true → s.data.toList = legQ g → (sx, n1, n2) = g ∧ (b1 && b2) = true)) := by
      refine ⟨⟨by rw [ESX.out]; show (⟨x.toArray⟩ : ByteArray).size ≤ maxLen; rw [str_sizeC]; unfold maxLen; omega, wf_num HN1.out.2.1 HN1.out.2.2, wf_num HN2.out.2.1 HN2.out.2.2⟩, fun gl hgl e => ?_⟩
      have h1 := EA.out
      rw [e, cut_leg hgl] at h1
      obtain ⟨gp0, gp1, gp2, gp3, gp4, gp5⟩ := legB_parts hgl
      have e1 := (List.cons.inj h1).1
      have e2 := (List.cons.inj (List.cons.inj h1).2).1
      have e3 := (List.cons.inj (List.cons.inj (List.cons.inj h1).2).2).1
      have a1 := HN1.out.1 gl.2.1 (by omega) (by omega) e2
      have a2 := HN2.out.1 gl.2.2 (by omega) (by omega) e3
      refine ⟨?_, by rw [a1.2, a2.2]; rfl⟩
      rw [a1.1, a2.1, ESX.out, e1, str_selfC]
    have HFIN : Hid (∀ b, b = (b1 && b2) → LegE s.data.toList (.returned (.tuple #[.agg #[.string sx, .int .i64 n1, .int .i64 n2], .bool b]))) := fun b hb => ⟨sx, n1, n2, b, rfl, HREL.out.1, by rw [hb]; exact HREL.out.2⟩
    clear HREL HN1 HN2 CY CZ
    cases b1 with
    | true =>
      go_wp2
      refine bodyPost_ret (v := .tuple #[.agg #[.string sx, .int .i64 n1, .int .i64 n2], .bool b2]) (by simp [results, Tryd.results43, go_sem, q0, q1, q2]) rfl ⟨HFIN.out _ (by simp), ((HB1.out.setCell (p := ⟨w.heap.size, 0, none⟩) (Nat.le_refl _) _).setCell (p := ⟨w.heap.size, 1, none⟩) (Nat.le_refl _) _).setCell (p := ⟨w.heap.size, 2, none⟩) (Nat.le_refl _) _⟩
    | false =>
      go_wp2
      refine bodyPost_ret (v := .tuple #[.agg #[.string sx, .int .i64 n1, .int .i64 n2], .bool false]) (by simp [results, Tryd.results43, go_sem, q0, q1, q2]) rfl ⟨HFIN.out _ (by simp), ((HB1.out.setCell (p := ⟨w.heap.size, 0, none⟩) (Nat.le_refl _) _).setCell (p := ⟨w.heap.size, 1, none⟩) (Nat.le_refl _) _).setCell (p := ⟨w.heap.size, 2, none⟩) (Nat.le_refl _) _⟩
  · have h3i : ¬ (A.length : Int) = 3 := by omega
    have h3b : ((A.length : Int) == 3) = false := by simpa using h3i
    have h3n : ((A.length : Int) != 3) = true := by simpa using h3i
    have HNO : Hid (LegE s.data.toList (.returned (.tuple #[.agg #[.string ⟨#[]⟩, .int .i64 0, .int .i64 0], .bool false]))) := by
      refine ⟨⟨#[]⟩, 0, 0, false, rfl, ⟨(Nat.zero_le _ : 0 ≤ maxLen), by decide, by decide⟩, fun gl hgl e => ?_⟩
      exfalso
      apply h3
      rw [EA.out, e, cut_leg hgl]
      rfl
    clear h3
    go_wp2
    refine bodyPost_ret (v := .tuple #[.agg #[.string ⟨#[]⟩, .int .i64 0, .int .i64 0], .bool false]) (by simp [results, Tryd.results43, go_sem, q0, q1, q2]) rfl ⟨HNO.out, ((HB1.out.setCell (p := ⟨w.heap.size, 0, none⟩) (Nat.le_refl _) _).setCell (p := ⟨w.heap.size, 1, none⟩) (Nat.le_refl _) _).setCell (p := ⟨w.heap.size, 2, none⟩) (Nat.le_refl _) _⟩

end Go.Proofs.YtcabinakcmpkeaaDoor
