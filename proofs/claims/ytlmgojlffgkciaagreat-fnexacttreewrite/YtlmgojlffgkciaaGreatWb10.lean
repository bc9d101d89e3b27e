/-
  The program's cloneRuns: runs in memory of their own; by a walk of its Go text.
  An array's elements by their places.
-/
import Derived.Test.YtlmgojlffgkciaaGreatWb07
import Derived.Test.YtlmgojlffgkciaaGreatWb08
import Derived.Deep.RegionWith
import Derived.Deep.DeepCutAuto
import Derived.Test.YtlmgojlffgkciaaGreatWb02
namespace Go.Proofs.YtlmgojlffgkciaaGreat
open Go.RowKit

/-- Texts that are not too great. -/
def SmallE (L : List EntD) : Prop := ∀ e ∈ L, e.1.size ≤ 281474976710656 ∧ e.2.2.2.1.size ≤ 281474976710656
def SmallRE (B : List RunD) : Prop := ∀ p ∈ B, SmallE p.1

set_option maxRecDepth 100000 in
set_option maxHeartbeats 4000000 in
theorem cloneR_any (lo : Nat) (a : Option Addr) (len cap : Nat) (B : List RunD) (w : World) (hP : RunsIn lo w a len cap B) (hS : SmallR B) (hE : SmallRE B) :
    Calls Tryz.prog 121 #[.slice a len cap] w fun e w' => e = .returned (.slice (some ⟨w.heap.size, 0, none⟩) len len) ∧ RunsIn w.heap.size w' (some ⟨w.heap.size, 0, none⟩) len len B ∧ w.heap.size < w'.heap.size ∧ Below w.heap.size w w' := by
  have HLEN : Hid (B.length = len) := hP.length
  have HWF : Hid (∀ p ∈ B, (Lit.int .i64 p.2).wf = true) := hP.wfs
  have hbig : len ≤ 1048576 := by have := hP.length; have := hS.1; omega
  have HSM : Hid (SmallR B) := hS
  have HSE : Hid (SmallRE B) := hE
  have HL : Hid (RunsIn lo w a len cap B) := hP
  clear hP hS hE
  obtain ⟨i0, hi, hz0, hz1, hz2⟩ := info_parts Tryz.infoRun
  go_enter Tryz.func121, Tryz.ntmps121
  go_wp2_with (at_make; refine wpList_make_full _ rfl _ _ 64 rfl w.heap.size 102 i0 _ 2 Tryz.underlying64 hi hz0 hz1 .i64 .i64 _ _ len rfl rfl (by simp) (by simp) (by rw [hz2]; omega) (by unfold maxLen; omega) (Nat.le_refl _) ?_; intro w1 hown hgrow)
  have hb1 : Below w.heap.size w w1 := (Below.refl _ _).grown hgrow (Nat.le_refl _) (by simp)
  have hsz1 : w.heap.size < w1.heap.size := (hown.lt _ rfl).2
  obtain ⟨G, hG⟩ : ∃ G, w.heap.size = G := ⟨_, rfl⟩
  rw [hG] at hown hsz1 ⊢
  have HG0 : Hid (w.heap.size = G) := hG
  have HBW : Hid (Below G w w1) := by show Below G w w1; rw [← hG]; exact hb1
  clear hG hb1 hgrow
  go_loopw [11] (fun i wr => ∃ (k : Nat) (xs : List Value), k ≤ len ∧ i = .int .i64 k ∧ wr.ownsRow G 102 2 (.slice (some ⟨G, 0, none⟩) len len) len xs ∧ Below G w wr ∧ (∀ j p, j < k → B[j]? = some p → RunHas G wr xs j p)) (fun i _ => len - (intOf i).toNat)
  case atStart => exact ⟨0, _, Nat.zero_le _, rfl, hown, HBW.out, fun j l h => absurd h (Nat.not_lt_zero _)⟩
  case round =>
    obtain ⟨k, xs, hk, rfl, ho, hb, hrow⟩ := hrel
    have HROW : Hid (∀ j p, j < k → B[j]? = some p → RunHas G wr xs j p) := hrow
    clear hrow hown
    have hzr : G < wr.heap.size := (ho.lt _ rfl).2
    have hbw : Below w.heap.size w wr := by rw [HG0.out]; exact hb
    have HB : Hid (Below G w wr) := hb
    clear hb
    by_cases hlt : k < len
    · have hltI : (k : Int) < (len : Int) := by omega
      obtain ⟨b, off, rfl, hbb⟩ := HL.out.form (by omega)
      obtain ⟨L, m, s, n, c, hg, _, g0, g1, hLk⟩ := HL.out.run hbw k hlt
      have hn : n ≤ 1048576 := by
        have := HSM.out.2 _ (List.mem_of_getElem? hg)
        have := hLk.1.length
        simp only at *
        omega
      have HSL : Hid (SmallE L) := HSE.out _ (List.mem_of_getElem? hg)
      have HG : Hid (B[k]? = some (L, m)) := hg
      have hbk : b < wr.heap.size := Nat.lt_of_lt_of_le hbb hbw.size
      have HLK : Hid (EntsAt wr s n c L) := hLk.1
      have HX : Hid (xs.length = len * 2) := ho.1
      have HO : Hid (wr.ownsRow G 102 2 (.slice (some ⟨G, 0, none⟩) len len) len xs) := ho
      clear hg hLk ho hbw
      go_upto_region 5 with fail
      obtain ⟨X, hX⟩ : ∃ X, wr.heap.size = X := ⟨_, rfl⟩
      obtain ⟨W, hW⟩ : ∃ W, W = wr.alloc (.cells #[.slice s n c, .int .i64 m] 102) := ⟨_, rfl⟩
      have kW : Below wr.heap.size wr W := by rw [hW]; exact (Below.refl _ _).alloc (Nat.le_refl _) _
      have x0 : W.cell? ⟨X, 0, none⟩ = some (.slice s n c) := by rw [hW, ← hX]; simp
      have x1 : W.cell? ⟨X, 1, none⟩ = some (.int .i64 m) := by rw [hW, ← hX]; simp
      have xz : X < W.heap.size := World.block_lt_of_cell? _ _ x0
      have HKW : Hid (Below wr.heap.size wr W) := kW
      rw [← hW, hX]
      clear hW kW hX
      have HOW : Hid (W.ownsRow G 102 2 (.slice (some ⟨G, 0, none⟩) len len) len xs) := HO.out.kept (row := none) (grown_below HKW.out) (.inr (by simp [Value.ownBlock]))
      have hzW : G < W.heap.size := Nat.lt_of_lt_of_le hzr HKW.out.size
      go_region_with (go_at_call 111; refine (cloneE_any s n c L _ ((HLK.out.keep HKW.out).keep ((Below.refl _ W).drew)) hn HSL.out).mono ?_; rintro e w2 ⟨rfl, hown2, hsz2, hb2⟩; have k2 : Below W.heap.size W w2 := ((Below.refl _ W).drew).trans hb2; have x1' := cell_later k2 x1; have xz' := Nat.lt_of_lt_of_le xz k2.size; have ho2 : w2.ownsRow G 102 2 (.slice (some ⟨G, 0, none⟩) len len) len xs := HOW.out.kept (row := none) (grown_below k2) (.inr (by simp [Value.ownBlock])); obtain ⟨v0, c0⟩ : ∃ v, w2.cell? ⟨G, k * 2, none⟩ = some v := ⟨_, (ho2.cellAt _ (by omega)).trans (List.getElem?_eq_getElem (by rw [HX.out]; omega))⟩; obtain ⟨v1, c1⟩ : ∃ v, w2.cell? ⟨G, k * 2 + 1, none⟩ = some v := ⟨_, (ho2.cellAt _ (by omega)).trans (List.getElem?_eq_getElem (by rw [HX.out]; omega))⟩; have f0 : w2.frozen? ⟨G, k * 2, none⟩ = false := ho2.frozenAt _; have f1 : w2.frozen? ⟨G, k * 2 + 1, none⟩ = false := ho2.frozenAt _; have zG := Nat.lt_of_lt_of_le hzW k2.size)
      all_goals
        have HE2 : Hid (EntsIn (G + 1) w2 (some ⟨W.heap.size, 0, none⟩) n n L) := ⟨hown2.entsAt, fun x e _ => by cases e; simp only; omega⟩
        have HO2 : Hid (w2.ownsRow G 102 2 (.slice (some ⟨G, 0, none⟩) len len) len xs) := ho2
        have K2 : Hid (Below wr.heap.size wr w2) := HKW.out.trans (k2.mono HKW.out.size)
        clear hown2 hsz2 hb2 k2 ho2 c0 c1 f0 f1 HOW HKW x0 x1 xz
        go_wp2
        go_roundw
        case rel =>
          have t0 := HO2.out.stored (k * 2) (.slice (some ⟨W.heap.size, 0, none⟩) n n)
          have t1 := t0.1.stored (k * 2 + 1) (.int .i64 m)
          have hsm : Same (G + 1) w2 ((w2.setCell ⟨G, k * 2, none⟩ (.slice (some ⟨W.heap.size, 0, none⟩) n n)).setCell ⟨G, k * 2 + 1, none⟩ (.int .i64 m)) := (Same.of_set _ _ (by simp)).trans (Same.of_set _ _ (by simp))
          refine ⟨k + 1, _, by omega, by go_num, t1.1, ?_, ?_⟩
          · exact ((HB.out.trans (K2.out.mono (by omega))).setCell (p := ⟨G, _, none⟩) (Nat.le_refl _) _).setCell (p := ⟨G, _, none⟩) (Nat.le_refl _) _
          · intro j p hj hp
            by_cases hjk : j = k
            · subst hjk
              rw [HG.out] at hp
              cases hp
              exact runHas_same (by rw [HX.out]; omega) (HE2.out.same hsm)
            · exact (HROW.out j p (by omega) hp).other hjk _ _ ((Same.of_below K2.out).trans hsm)
        case measure => simp [intOf]; omega
    · go_wp2
      go_ret
      rw [HG0.out]
      exact ⟨rfl, runsIn_of_row ho HLEN.out HWF.out (fun j p hp => HROW.out j p (by have := (List.getElem?_eq_some_iff.1 hp).1; rw [HLEN.out] at this; omega) hp), hzr, HB.out⟩
end Go.Proofs.YtlmgojlffgkciaaGreat

namespace Go.Proofs.YtlmgojlffgkciaaGreat
open Go.RowKit

theorem idxR_0 (w : World) (a0 a1 a2 : Option Addr) (n0 c0 n1 c1 n2 c2 : Nat) : (Instr.index 65 (.agg #[.slice a0 n0 c0, .slice a1 n1 c1, .slice a2 n2 c2]) (.int .i64 0)).run Tryz.prog w = .ok (.slice a0 n0 c0) w := by
  simp [Instr.index, run_underlying Tryz.underlying65, asIntOf, go_sem, Tryz.isAgg64, Tryz.sizeOf64, part]
theorem idxR_1 (w : World) (a0 a1 a2 : Option Addr) (n0 c0 n1 c1 n2 c2 : Nat) : (Instr.index 65 (.agg #[.slice a0 n0 c0, .slice a1 n1 c1, .slice a2 n2 c2]) (.int .i64 1)).run Tryz.prog w = .ok (.slice a1 n1 c1) w := by
  simp [Instr.index, run_underlying Tryz.underlying65, asIntOf, go_sem, Tryz.isAgg64, Tryz.sizeOf64, part]
theorem idxR_2 (w : World) (a0 a1 a2 : Option Addr) (n0 c0 n1 c1 n2 c2 : Nat) : (Instr.index 65 (.agg #[.slice a0 n0 c0, .slice a1 n1 c1, .slice a2 n2 c2]) (.int .i64 2)).run Tryz.prog w = .ok (.slice a2 n2 c2) w := by
  simp [Instr.index, run_underlying Tryz.underlying65, asIntOf, go_sem, Tryz.isAgg64, Tryz.sizeOf64, part]

end Go.Proofs.YtlmgojlffgkciaaGreat
