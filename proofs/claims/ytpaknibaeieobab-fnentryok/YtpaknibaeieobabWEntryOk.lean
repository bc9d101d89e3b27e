/-
  The walk of the law FnEntryOk: it answers true at all bytes.
-/
import Derived.Test.YtpaknibaeieobabEntI
import Derived.Test.YtpaknibaeieobabEntS
import Derived.Test.YtpaknibaeieobabDrawOk
import Derived.Test.YtpaknibaeieobabBytes
namespace Go.Proofs.Ytpaknibaeieobab
open Go.RowKit

theorem entB_parts {k t : ByteArray} {q d n : Int} (h : entB k q d t n = true) : keyB k = true ∧ 1 ≤ q ∧ q ≤ 100000 ∧ -1000000 ≤ n ∧ n ≤ 1000000 ∧ t.size ≤ 60 := by
  unfold entB at h
  simp only [Bool.and_eq_true, decide_eq_true_eq] at h
  exact ⟨h.1, h.2.1, h.2.2.1, h.2.2.2.1, h.2.2.2.2.1, h.2.2.2.2.2.1⟩
theorem ent_a {k t : ByteArray} {q : Int} : entB k q 2 t 1 = false := by simp [entB, kindB]
theorem ent_c {k : ByteArray} {q n : Int} : entB k q 3 ⟨#[116]⟩ n = false := by
  have : ¬ (⟨#[116]⟩ : ByteArray).size = 0 := by decide
  simp [entB, kindB, this]
theorem ent_d {k t : ByteArray} {q n : Int} : entB k q 0 t n = false := by simp [entB, kindB]
theorem ent_f {k t : ByteArray} {q d n : Int} (h : entB k q d t n = true) : entB k q 1 t n = true := by
  obtain ⟨h1, h2, h3, h4, h5, h6⟩ := entB_parts h
  rw [entB_rest h1 h2 h3 h4 h5 h6]
  exact kindB_1

set_option maxRecDepth 100000 in
set_option maxHeartbeats 4000000 in
theorem walkFnEntryOk (a : Option Addr) (len cap : Nat) (w : World) (hb : BytesAt w a len cap) :
    Calls Try.prog 3 #[.slice a len cap] w fun e w' => e = .returned (.bool true) ∧ Below w.heap.size w w' := by
  have HB : Hid (BytesAt w a len cap) := hb
  have hc1 := hb.1
  have hc2 := hb.2.1
  unfold maxLen at hc2
  clear hb
  by_cases hbig : 1048576 < len
  · go_enter Try.func3, Try.ntmps3
    go_wp2
    go_ret
    exact ⟨rfl, Below.refl _ _⟩
  go_enter Try.func3, Try.ntmps3
  go_wp2_with fail
  refine (drawOk_any a len cap _ HB.out).mono ?_
  rintro e w1 ⟨k, t, q, d, n, rfl, hF, hb1⟩
  have hks : k.size ≤ maxLen := by have := hF.1; unfold Few at this; unfold maxLen; omega
  have hts : t.size ≤ maxLen := by have := hF.2.1; unfold Few at this; unfold maxLen; omega
  have HKS : Hid (k.size ≤ maxLen) := hks
  have HTS : Hid (t.size ≤ maxLen) := hts
  clear hF hks hts
  go_upto_region 4 with fail
  obtain ⟨E, hE⟩ : ∃ E, E = w1.heap.size := ⟨_, rfl⟩
  obtain ⟨W1, hW1⟩ : ∃ W, W = w1.alloc (.cells #[.string k, .int .i64 q, .int .i64 d, .string t, .int .i64 n] 24) := ⟨_, rfl⟩
  have BE : Box5 W1 E (.string k) (.int .i64 q) (.int .i64 d) (.string t) (.int .i64 n) := by rw [hW1, hE]; exact Box5.new _ _ _ _ _ _ _
  have HG1 : Hid (Below w.heap.size w W1) := by show Below _ _ _; rw [hW1]; exact hb1.alloc hb1.size _
  rw [← hW1, ← hE]
  clear hW1 hE hb1
  have e0 := BE.c0
  have e1 := BE.c1
  have e2 := BE.c2
  have e3 := BE.c3
  have e4 := BE.c4
  have lE := BE.lt
  go_wp2_with fail
  obtain ⟨v, hv⟩ : ∃ v, v = entB k q d t n := ⟨_, rfl⟩
  have cI : ∀ w, Calls Try.prog 5 #[.agg #[.string k, .int .i64 q, .int .i64 d, .string t, .int .i64 n]] w fun e w' => e = .returned (.bool v) ∧ Below w.heap.size w w' := by rw [hv]; exact fun w => implEnt k t q d n w HKS.out
  have cS : ∀ w, Calls Try.prog 6 #[.agg #[.string k, .int .i64 q, .int .i64 d, .string t, .int .i64 n]] w fun e w' => e = .returned (.bool v) ∧ Below w.heap.size w w' := by rw [hv]; exact fun w => specEnt k t q d n w HKS.out HTS.out
  have HV : Hid (v = entB k q d t n) := hv
  clear hv
  refine (cI _).mono ?_
  rintro e w2 ⟨rfl, hb2⟩
  have BE2 := BE.below hb2
  have HG2 : Hid (Below w.heap.size w w2) := HG1.out.trans (hb2.mono HG1.out.size)
  clear BE hb2 HG1 e0 e1 e2 e3 e4 lE
  have e0 := BE2.c0
  have e1 := BE2.c1
  have e2 := BE2.c2
  have e3 := BE2.c3
  have e4 := BE2.c4
  have lE := BE2.lt
  go_wp2_with fail
  refine (cS _).mono ?_
  rintro e w3 ⟨rfl, hb3⟩
  have BE3 := BE2.below hb3
  have HG3 : Hid (Below w.heap.size w w3) := HG2.out.trans (hb3.mono HG2.out.size)
  clear BE2 hb3 HG2 e0 e1 e2 e3 e4 lE
  have e0 := BE3.c0
  have e1 := BE3.c1
  have e2 := BE3.c2
  have e3 := BE3.c3
  have e4 := BE3.c4
  have lE := BE3.lt
  cases v with
  | false =>
    go_wp2_with fail
    refine (cS _).mono ?_
    rintro e w4 ⟨rfl, hb4⟩
    go_wp2
    go_ret
    exact ⟨rfl, HG3.out.trans (hb4.mono HG3.out.size)⟩
  | true =>
    clear cI cS
    have HT := HV.out.symm
    have HTT : Hid (entB k q d t n = true) := HT
    clear HT HV
    go_upto_region 10 with fail
    obtain ⟨A, hA⟩ : ∃ X, X = w3.heap.size := ⟨_, rfl⟩
    obtain ⟨WA, hWA⟩ : ∃ W, W = w3.alloc (.cells #[.string k, .int .i64 q, .int .i64 2, .string t, .int .i64 1] 24) := ⟨_, rfl⟩
    have kA : Below w3.heap.size w3 WA := by rw [hWA]; exact (Below.refl _ _).alloc (Nat.le_refl _) _
    have BA : Box5 WA A (.string k) (.int .i64 q) (.int .i64 2) (.string t) (.int .i64 1) := by rw [hWA, hA]; exact Box5.new _ _ _ _ _ _ _
    have BE3' := BE3.below kA
    have HGA : Hid (Below w.heap.size w WA) := HG3.out.trans (kA.mono HG3.out.size)
    rw [← hWA, ← hA]
    clear hWA hA kA BE3 HG3 e0 e1 e2 e3 e4 lE
    have e0 := BE3'.c0
    have e1 := BE3'.c1
    have e2 := BE3'.c2
    have e3 := BE3'.c3
    have e4 := BE3'.c4
    have lE := BE3'.lt
    go_upto_region 12 with fail
    obtain ⟨B, hB⟩ : ∃ X, X = WA.heap.size := ⟨_, rfl⟩
    obtain ⟨WB, hWB⟩ : ∃ W, W = WA.alloc (.cells #[.string k, .int .i64 0, .int .i64 d, .string t, .int .i64 n] 24) := ⟨_, rfl⟩
    have kB : Below WA.heap.size WA WB := by rw [hWB]; exact (Below.refl _ _).alloc (Nat.le_refl _) _
    have BB : Box5 WB B (.string k) (.int .i64 0) (.int .i64 d) (.string t) (.int .i64 n) := by rw [hWB, hB]; exact Box5.new _ _ _ _ _ _ _
    have BAB := BA.below kB
    have BE3'' := BE3'.below kB
    have HGB : Hid (Below w.heap.size w WB) := HGA.out.trans (kB.mono HGA.out.size)
    rw [← hWB, ← hB]
    clear hWB hB kB BE3' HGA e0 e1 e2 e3 e4 lE BA
    have e0 := BE3''.c0
    have e1 := BE3''.c1
    have e2 := BE3''.c2
    have e3 := BE3''.c3
    have e4 := BE3''.c4
    have lE := BE3''.lt
    go_upto_region 15 with fail
    obtain ⟨C, hC⟩ : ∃ X, X = WB.heap.size := ⟨_, rfl⟩
    obtain ⟨WC, hWC⟩ : ∃ W, W = WB.alloc (.cells #[.string k, .int .i64 q, .int .i64 3, .string ⟨#[116]⟩, .int .i64 n] 24) := ⟨_, rfl⟩
    have kC : Below WB.heap.size WB WC := by rw [hWC]; exact (Below.refl _ _).alloc (Nat.le_refl _) _
    have BC : Box5 WC C (.string k) (.int .i64 q) (.int .i64 3) (.string ⟨#[116]⟩) (.int .i64 n) := by rw [hWC, hC]; exact Box5.new _ _ _ _ _ _ _
    have BABC := BAB.below kC
    have BBC := BB.below kC
    have BE3''' := BE3''.below kC
    have HGC : Hid (Below w.heap.size w WC) := HGB.out.trans (kC.mono HGB.out.size)
    rw [← hWC, ← hC]
    clear hWC hC kC BE3'' HGB e0 e1 e2 e3 e4 lE BAB BB
    have e0 := BE3'''.c0
    have e1 := BE3'''.c1
    have e2 := BE3'''.c2
    have e3 := BE3'''.c3
    have e4 := BE3'''.c4
    have lE := BE3'''.lt
    go_upto_region 17 with fail
    obtain ⟨D, hD⟩ : ∃ X, X = WC.heap.size := ⟨_, rfl⟩
    obtain ⟨WD, hWD⟩ : ∃ W, W = WC.alloc (.cells #[.string k, .int .i64 q, .int .i64 0, .string t, .int .i64 n] 24) := ⟨_, rfl⟩
    have kD : Below WC.heap.size WC WD := by rw [hWD]; exact (Below.refl _ _).alloc (Nat.le_refl _) _
    have BD : Box5 WD D (.string k) (.int .i64 q) (.int .i64 0) (.string t) (.int .i64 n) := by rw [hWD, hD]; exact Box5.new _ _ _ _ _ _ _
    have BABCD := BABC.below kD
    have BBCD := BBC.below kD
    have BCD := BC.below kD
    have BE3'''' := BE3'''.below kD
    have HGD : Hid (Below w.heap.size w WD) := HGC.out.trans (kD.mono HGC.out.size)
    rw [← hWD, ← hD]
    clear hWD hD kD BE3''' HGC e0 e1 e2 e3 e4 lE BABC BBC BC
    have e0 := BE3''''.c0
    have e1 := BE3''''.c1
    have e2 := BE3''''.c2
    have e3 := BE3''''.c3
    have e4 := BE3''''.c4
    have lE := BE3''''.lt
    go_upto_region 19 with fail
    obtain ⟨F, hF⟩ : ∃ X, X = WD.heap.size := ⟨_, rfl⟩
    obtain ⟨WF, hWF⟩ : ∃ W, W = WD.alloc (.cells #[.string k, .int .i64 q, .int .i64 1, .string t, .int .i64 n] 24) := ⟨_, rfl⟩
    have kF : Below WD.heap.size WD WF := by rw [hWF]; exact (Below.refl _ _).alloc (Nat.le_refl _) _
    have BF : Box5 WF F (.string k) (.int .i64 q) (.int .i64 1) (.string t) (.int .i64 n) := by rw [hWF, hF]; exact Box5.new _ _ _ _ _ _ _
    have BABCDF := BABCD.below kF
    have BBCDF := BBCD.below kF
    have BCDF := BCD.below kF
    have BDF := BD.below kF
    have BE3''''' := BE3''''.below kF
    have HGF : Hid (Below w.heap.size w WF) := HGD.out.trans (kF.mono HGD.out.size)
    rw [← hWF, ← hF]
    clear hWF hF kF BE3'''' HGD e0 e1 e2 e3 e4 lE BABCD BBCD BCD BD
    have e0 := BE3'''''.c0
    have e1 := BE3'''''.c1
    have e2 := BE3'''''.c2
    have e3 := BE3'''''.c3
    have e4 := BE3'''''.c4
    have lE := BE3'''''.lt
    clear e0 e1 e2 e3 e4 lE BE3'''''
    have g0 := BABCDF.c0
    have g1 := BABCDF.c1
    have g2 := BABCDF.c2
    have g3 := BABCDF.c3
    have g4 := BABCDF.c4
    have lg := BABCDF.lt
    go_wp2_with fail
    refine (implEnt k t q 2 1 _ HKS.out).mono ?_
    rw [ent_a]
    rintro e v0 ⟨rfl, hb0⟩
    have BBCDFx := BBCDF.below hb0
    have BCDFx := BCDF.below hb0
    have BDFx := BDF.below hb0
    have BFx := BF.below hb0
    have HGv0 : Hid (Below w.heap.size w v0) := HGF.out.trans (hb0.mono HGF.out.size)
    clear g0 g1 g2 g3 g4 lg hb0 HGF BABCDF BBCDF BCDF BDF BF
    have g0 := BBCDFx.c0
    have g1 := BBCDFx.c1
    have g2 := BBCDFx.c2
    have g3 := BBCDFx.c3
    have g4 := BBCDFx.c4
    have lg := BBCDFx.lt
    go_wp2_with fail
    refine (implEnt k t 0 d n _ HKS.out).mono ?_
    rw [entB_q1 (by omega)]
    rintro e v1 ⟨rfl, hb1⟩
    have BCDFxx := BCDFx.below hb1
    have BDFxx := BDFx.below hb1
    have BFxx := BFx.below hb1
    have HGv1 : Hid (Below w.heap.size w v1) := HGv0.out.trans (hb1.mono HGv0.out.size)
    clear g0 g1 g2 g3 g4 lg hb1 HGv0 BBCDFx BCDFx BDFx BFx
    have g0 := BCDFxx.c0
    have g1 := BCDFxx.c1
    have g2 := BCDFxx.c2
    have g3 := BCDFxx.c3
    have g4 := BCDFxx.c4
    have lg := BCDFxx.lt
    go_wp2_with fail
    refine (implEnt k ⟨#[116]⟩ q 3 n _ HKS.out).mono ?_
    rw [ent_c]
    rintro e v2 ⟨rfl, hb2⟩
    have BDFxxx := BDFxx.below hb2
    have BFxxx := BFxx.below hb2
    have HGv2 : Hid (Below w.heap.size w v2) := HGv1.out.trans (hb2.mono HGv1.out.size)
    clear g0 g1 g2 g3 g4 lg hb2 HGv1 BCDFxx BDFxx BFxx
    have g0 := BDFxxx.c0
    have g1 := BDFxxx.c1
    have g2 := BDFxxx.c2
    have g3 := BDFxxx.c3
    have g4 := BDFxxx.c4
    have lg := BDFxxx.lt
    go_wp2_with fail
    refine (implEnt k t q 0 n _ HKS.out).mono ?_
    rw [ent_d]
    rintro e v3 ⟨rfl, hb3⟩
    have BFxxxx := BFxxx.below hb3
    have HGv3 : Hid (Below w.heap.size w v3) := HGv2.out.trans (hb3.mono HGv2.out.size)
    clear g0 g1 g2 g3 g4 lg hb3 HGv2 BDFxxx BFxxx
    have g0 := BFxxxx.c0
    have g1 := BFxxxx.c1
    have g2 := BFxxxx.c2
    have g3 := BFxxxx.c3
    have g4 := BFxxxx.c4
    have lg := BFxxxx.lt
    go_wp2_with fail
    refine (implEnt k t q 1 n _ HKS.out).mono ?_
    rw [ent_f HTT.out]
    rintro e v4 ⟨rfl, hb4⟩
    have HGv4 : Hid (Below w.heap.size w v4) := HGv3.out.trans (hb4.mono HGv3.out.size)
    clear g0 g1 g2 g3 g4 lg hb4 HGv3 BFxxxx
    go_wp2
    go_ret
    exact ⟨rfl, HGv4.out⟩

end Go.Proofs.Ytpaknibaeieobab
