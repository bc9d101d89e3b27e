/-
  The document's draws of a batch that was done and of a log, by walks of its Go text.
-/
import Derived.Test.YtfblpbihpmhgjaaDoorFm46
import Derived.Test.YtfblpbihpmhgjaaDoorFm23
import Derived.Deep.RegionHeld3
import Derived.Deep.RegionWith
namespace Go.Proofs.YtfblpbihpmhgjaaDoor
open Go.RowKit

/-- The reader's place is within bounds, all below is unchanged. -/
theorem below_rd {w w1 w2 : World} {R : Nat} (h : Below w.heap.size w w1) (hg : w1.grownBy w2 (some R)) (hR : w.heap.size ≤ R) : Below w.heap.size w w2 := h.grown hg h.size (fun x e => by have := Option.some.inj e; omega)
def Sml (s : ByteArray) : Prop := s.size ≤ 100
/-- What a batch that was done is drawn as. -/
def FrTD (w : World) (e : Ending) (w' : World) : Prop := ∃ (g n c : Nat) (M : List EntD), e = .returned (.slice (some ⟨g, 0, none⟩) n c) ∧ OwnE w' w.heap.size g n c M ∧ n ≤ 13 ∧ Below w.heap.size w w'

set_option maxHeartbeats 4000000 in
set_option maxRecDepth 100000 in
theorem drawFT (a : Option Addr) (len cap : Nat) (w : World) (hl : len ≤ cap) (hcap : cap ≤ maxLen) (hb : len = 0 ∨ ∃ b off, a = some ⟨b, off, none⟩ ∧ b < w.heap.size ∧ ∀ i, i < len → ∃ z : Nat, z ≤ 255 ∧ w.cell? ⟨b, off + i, none⟩ = some (.int .u8 z)) :
    Calls Tryd.prog 35 #[.slice a len cap] w fun e w' => FrTD w e w' := by
  go_enter Tryd.func35, Tryd.ntmps35
  go_wp2_with fail
  refine (l9Open_any a len cap _ hl hcap hb).mono ?_
  rintro e w1 ⟨len', rfl, hR1, hb1, hz1⟩
  obtain ⟨R, hR⟩ : ∃ R, R = w.heap.size := ⟨_, rfl⟩
  have HRW : Hid (R = w.heap.size) := hR
  rw [← hR] at hR1 ⊢
  have HZ1 : Hid (w1.heap.size = w.heap.size + 1) := hz1
  have HB1 : Hid (Below w.heap.size w w1) := hb1
  have HLB : Hid (∀ b off, a = some ⟨b, off, none⟩ → 0 < len' → b < w1.heap.size) := hR1.low
  clear hR hz1 hb1 hb
  go_wp2_with fail
  refine (l5Batch_any R 0 a len' cap _ hR1 (by omega)).mono ?_
  rintro e w2 ⟨gb, nb, cb, P2, Mb, rfl, hOb, hFb, hnb, hR2, hP2, hg2⟩
  have HB2 : Hid (Below w.heap.size w w2) := below_rd HB1.out hg2 (by have := HRW.out; omega)
  have HZ2 : Hid (w1.heap.size ≤ w2.heap.size) := hg2.size
  have HOb : Hid (OwnE w2 w1.heap.size gb nb cb Mb) := hOb
  have HFb : Hid (FewL Mb) := hFb
  clear hOb hFb hg2 hR1
  go_wp2_with fail
  refine (pick_any R P2 a len' cap 20 _ hR2 (by omega) (by omega)).mono ?_
  rintro e w3 ⟨qs, rfl, hq, hR3, hg3⟩
  have hq20 : 0 ≤ qs ∧ qs < 20 := ⟨hq.1, hq.2 (by omega)⟩
  have HB3 : Hid (Below w.heap.size w w3) := below_rd HB2.out hg3 (by have := HRW.out; omega)
  have HO3 : Hid (OwnE w3 w1.heap.size gb nb cb Mb) := HOb.out.grown hg3 (fun e => by have h1 := HOb.out.lt.1; have h2 := Option.some.inj e; have h3 := HRW.out; have h4 := HZ1.out; omega)
  have HR3 : Hid (RdAt w3 R a len' cap (P2 + 1)) := hR3
  have HZ3 : Hid (w1.heap.size ≤ w3.heap.size) := Nat.le_trans HZ2.out hg3.size
  clear hq hR3 hg3 hR2 HOb HB2 HZ2
  go_wp2_with fail
  refine (stamp_any _ nb cb Mb qs _ HO3.out.entsAt (by omega) HFb.out hq20.1 (by omega)).mono ?_
  rintro e w4 ⟨g, n, c, M, bb, rfl, hO4, hF4, hn4, hb4⟩
  have HB4 : Hid (Below w.heap.size w w4) := HB3.out.trans (hb4.mono HB3.out.size)
  have HO4 : Hid (OwnE w4 w.heap.size g n c M) := hO4.mono HB3.out.size
  have HR4 : Hid (RdAt w4 R a len' cap (P2 + 1)) := HR3.out.below hb4
  have HGR : Hid (R < g ∧ w1.heap.size ≤ g) := by have h1 := hO4.lt.1; have h2 := HZ3.out; have h3 := HZ1.out; have h4 := HRW.out; exact ⟨by omega, by omega⟩
  have HFL : Hid (FewL M) := hF4
  have hRg : g ≠ R := by have := HGR.out.1; omega
  have HRB : Hid (∀ b off, a = some ⟨b, off, none⟩ → 0 < len' → b ≠ g) := fun b off e hl => by have h1 := HLB.out b off e hl; have := HGR.out.2; omega
  have HGW : Hid (w.heap.size ≤ g) := HO4.out.lt.1
  have hn13 : n ≤ 13 := by omega
  clear hO4 hF4 hb4 HO3 HR3 HB3 HZ3
  by_cases hn : n = 0
  · subst hn
    go_wp2
    go_ret
    exact ⟨g, 0, c, M, rfl, HO4.out, by omega, HB4.out⟩
  have hn0 : (n : Int) > 0 := by omega
  have hn1 : 1 ≤ n := by omega
  obtain ⟨l0, M', hM⟩ : ∃ l0 M', M = l0 :: M' := by
    cases M with
    | nil => have := HO4.out.len; simp at this; omega
    | cons x r => exact ⟨x, r, rfl⟩
  obtain ⟨k0, q0, d0, t0, m0⟩ := l0
  subst hM
  have HF0 : Hid (EntF k0 t0 q0 d0 m0) := by
    have h1 := HFL.out (k0, q0, d0, t0, m0) (by simp)
    have h2 := HO4.out.ents (k0, q0, d0, t0, m0) (by simp)
    exact ⟨h1.1, h1.2, h2.2.1, h2.2.2.1, h2.2.2.2.2⟩
  go_wp2_with fail
  refine (pick_any R (P2 + 1) a len' cap 12 _ HR4.out (by omega) (by omega)).mono ?_
  rintro e w5 ⟨x, rfl, hx, hR5, hg5⟩
  have HB5 : Hid (Below w.heap.size w w5) := below_rd HB4.out hg5 (by have := HRW.out; omega)
  have HO5 : Hid (OwnE w5 w.heap.size g n c ((k0, q0, d0, t0, m0) :: M')) := HO4.out.grown hg5 (by simpa using hRg)
  have HR5 : Hid (RdAt w5 R a len' cap (P2 + 1 + 1)) := hR5
  clear hx hR5 hg5 HB4 HO4 HR4
  by_cases hx0 : x = 0
  · subst hx0
    have c0 : w5.cell? ⟨g, 0, none⟩ = some (.string k0) := (HO5.out.owns.cellAt 0 (by omega)).trans rfl
    have c1 : w5.cell? ⟨g, 1, none⟩ = some (.int .i64 q0) := (HO5.out.owns.cellAt 1 (by omega)).trans rfl
    have c2 : w5.cell? ⟨g, 2, none⟩ = some (.int .i64 d0) := (HO5.out.owns.cellAt 2 (by omega)).trans rfl
    have c3 : w5.cell? ⟨g, 3, none⟩ = some (.string t0) := (HO5.out.owns.cellAt 3 (by omega)).trans rfl
    have c4 : w5.cell? ⟨g, 4, none⟩ = some (.int .i64 m0) := (HO5.out.owns.cellAt 4 (by omega)).trans rfl
    have hgl := HO5.out.lt.2
    go_wp2_with fail
    clear c0 c1 c2 c3 c4 hgl
    refine (l3Bent_any R (P2 + 1 + 1) a len' cap k0 t0 q0 d0 m0 _ HR5.out (by omega) HF0.out).mono ?_
    rintro e w6 ⟨k6, t6, q6, d6, m6, P6, rfl, hEF, hR, hPP6, hg⟩
    have HF6 : Hid (EntF k6 t6 q6 d6 m6) := hEF
    have HR6 : Hid (RdAt w6 R a len' cap P6) := hR
    have HO6 : Hid (OwnE w6 w.heap.size g n c ((k0, q0, d0, t0, m0) :: M')) := HO5.out.grown hg (by simpa using hRg)
    have HB6 : Hid (Below w.heap.size w w6) := below_rd HB5.out hg (by have := HRW.out; omega)
    clear hEF hR hg
    go_wp2_with fail
    refine (l3Bent_any R (P6) a len' cap k6 t6 q6 d6 m6 _ HR6.out (by omega) HF6.out).mono ?_
    rintro e w7 ⟨k7, t7, q7, d7, m7, P7, rfl, hEF, hR, hPP7, hg⟩
    have HF7 : Hid (EntF k7 t7 q7 d7 m7) := hEF
    have HR7 : Hid (RdAt w7 R a len' cap P7) := hR
    have HO7 : Hid (OwnE w7 w.heap.size g n c ((k0, q0, d0, t0, m0) :: M')) := HO6.out.grown hg (by simpa using hRg)
    have HB7 : Hid (Below w.heap.size w w7) := below_rd HB6.out hg (by have := HRW.out; omega)
    clear hEF hR hg
    go_wp2_with fail
    refine (l3Bent_any R (P7) a len' cap k7 t7 q7 d7 m7 _ HR7.out (by omega) HF7.out).mono ?_
    rintro e w8 ⟨k8, t8, q8, d8, m8, P8, rfl, hEF, hR, hPP8, hg⟩
    have HF8 : Hid (EntF k8 t8 q8 d8 m8) := hEF
    have HR8 : Hid (RdAt w8 R a len' cap P8) := hR
    have HO8 : Hid (OwnE w8 w.heap.size g n c ((k0, q0, d0, t0, m0) :: M')) := HO7.out.grown hg (by simpa using hRg)
    have HB8 : Hid (Below w.heap.size w w8) := below_rd HB7.out hg (by have := HRW.out; omega)
    clear hEF hR hg
    have c0 : w8.cell? ⟨g, 0, none⟩ = some (.string k0) := (HO8.out.owns.cellAt 0 (by omega)).trans rfl
    have f0 : w8.frozen? ⟨g, 0, none⟩ = false := HO8.out.owns.frozenAt 0
    have c1 : w8.cell? ⟨g, 1, none⟩ = some (.int .i64 q0) := (HO8.out.owns.cellAt 1 (by omega)).trans rfl
    have f1 : w8.frozen? ⟨g, 1, none⟩ = false := HO8.out.owns.frozenAt 1
    have c2 : w8.cell? ⟨g, 2, none⟩ = some (.int .i64 d0) := (HO8.out.owns.cellAt 2 (by omega)).trans rfl
    have f2 : w8.frozen? ⟨g, 2, none⟩ = false := HO8.out.owns.frozenAt 2
    have c3 : w8.cell? ⟨g, 3, none⟩ = some (.string t0) := (HO8.out.owns.cellAt 3 (by omega)).trans rfl
    have f3 : w8.frozen? ⟨g, 3, none⟩ = false := HO8.out.owns.frozenAt 3
    have c4 : w8.cell? ⟨g, 4, none⟩ = some (.int .i64 m0) := (HO8.out.owns.cellAt 4 (by omega)).trans rfl
    have f4 : w8.frozen? ⟨g, 4, none⟩ = false := HO8.out.owns.frozenAt 4
    have hgl := HO8.out.lt.2
    have HO9 : Hid (OwnE (((((w8.setCell ⟨g, 0, none⟩ (.string k8)).setCell ⟨g, 1, none⟩ (.int .i64 q8)).setCell ⟨g, 2, none⟩ (.int .i64 d8)).setCell ⟨g, 3, none⟩ (.string t8)).setCell ⟨g, 4, none⟩ (.int .i64 m8)) w.heap.size g n c ((k8, q8, d8, t8, m8) :: M')) := own_setAll HO8.out (entF_w HF8.out)
    have HR9 : Hid (RdAt (((((w8.setCell ⟨g, 0, none⟩ (.string k8)).setCell ⟨g, 1, none⟩ (.int .i64 q8)).setCell ⟨g, 2, none⟩ (.int .i64 d8)).setCell ⟨g, 3, none⟩ (.string t8)).setCell ⟨g, 4, none⟩ (.int .i64 m8)) R a len' cap P8) := ((((HR8.out.other hRg HRB.out _ _).other hRg HRB.out _ _).other hRg HRB.out _ _).other hRg HRB.out _ _).other hRg HRB.out _ _
    have HB9 : Hid (Below w.heap.size w (((((w8.setCell ⟨g, 0, none⟩ (.string k8)).setCell ⟨g, 1, none⟩ (.int .i64 q8)).setCell ⟨g, 2, none⟩ (.int .i64 d8)).setCell ⟨g, 3, none⟩ (.string t8)).setCell ⟨g, 4, none⟩ (.int .i64 m8))) := ((((HB8.out.setCell HGW.out _).setCell HGW.out _).setCell HGW.out _).setCell HGW.out _).setCell HGW.out _
    go_upto_region 5 with fail
    obtain ⟨w9, hw9⟩ : ∃ w9, w9 = (((((w8.setCell ⟨g, 0, none⟩ (.string k8)).setCell ⟨g, 1, none⟩ (.int .i64 q8)).setCell ⟨g, 2, none⟩ (.int .i64 d8)).setCell ⟨g, 3, none⟩ (.string t8)).setCell ⟨g, 4, none⟩ (.int .i64 m8)) := ⟨_, rfl⟩
    rw [← hw9]
    rw [← hw9] at HO9 HR9 HB9
    clear hw9 c0 f0 c1 f1 c2 f2 c3 f3 c4 f4 hgl
    go_wp2_with fail
    refine (pick_any R (P8) a len' cap 3 _ HR9.out (by omega) (by omega)).mono ?_
    rintro e wA ⟨y, rfl, hy, hRA, hgA⟩
    have HBA : Hid (Below w.heap.size w wA) := below_rd HB9.out hgA (by have := HRW.out; omega)
    have HOA : Hid (OwnE wA w.heap.size g n c ((k8, q8, d8, t8, m8) :: M')) := HO9.out.grown hgA (by simpa using hRg)
    have HRA : Hid (RdAt wA R a len' cap (P8 + 1)) := hRA
    clear hy hRA hgA
    by_cases hy0 : y = 0
    · subst hy0
      have c0 : wA.cell? ⟨g, 0, none⟩ = some (.string k8) := (HOA.out.owns.cellAt 0 (by omega)).trans rfl
      have f0 : wA.frozen? ⟨g, 0, none⟩ = false := HOA.out.owns.frozenAt 0
      have c1 : wA.cell? ⟨g, 1, none⟩ = some (.int .i64 q8) := (HOA.out.owns.cellAt 1 (by omega)).trans rfl
      have f1 : wA.frozen? ⟨g, 1, none⟩ = false := HOA.out.owns.frozenAt 1
      have c2 : wA.cell? ⟨g, 2, none⟩ = some (.int .i64 d8) := (HOA.out.owns.cellAt 2 (by omega)).trans rfl
      have f2 : wA.frozen? ⟨g, 2, none⟩ = false := HOA.out.owns.frozenAt 2
      have c3 : wA.cell? ⟨g, 3, none⟩ = some (.string t8) := (HOA.out.owns.cellAt 3 (by omega)).trans rfl
      have f3 : wA.frozen? ⟨g, 3, none⟩ = false := HOA.out.owns.frozenAt 3
      have c4 : wA.cell? ⟨g, 4, none⟩ = some (.int .i64 m8) := (HOA.out.owns.cellAt 4 (by omega)).trans rfl
      have f4 : wA.frozen? ⟨g, 4, none⟩ = false := HOA.out.owns.frozenAt 4
      have hgl := HOA.out.lt.2
      have HOB : Hid (OwnE (wA.setCell ⟨g, 2, none⟩ (.int .i64 1)) w.heap.size g n c ((k8, q8, 1, t8, m8) :: M')) := own_set2 HOA.out (by decide)
      have HRB2 : Hid (RdAt (wA.setCell ⟨g, 2, none⟩ (.int .i64 1)) R a len' cap (P8 + 1)) := HRA.out.other hRg HRB.out _ _
      have HBB : Hid (Below w.heap.size w (wA.setCell ⟨g, 2, none⟩ (.int .i64 1))) := HBA.out.setCell HGW.out _
      go_upto_region 7 with fail
      obtain ⟨wB, hwB⟩ : ∃ wB, wB = (wA.setCell ⟨g, 2, none⟩ (.int .i64 1)) := ⟨_, rfl⟩
      rw [← hwB]
      rw [← hwB] at HOB HRB2 HBB
      clear hwB c0 f0 c1 f1 c2 f2 c3 f3 c4 f4 hgl
      go_wp2_with fail
      have kc : Below wB.heap.size wB (wB.alloc (.cells ((([⟨#[97, 32, 98]⟩, ⟨#[32]⟩, ⟨#[55, 32, 97, 58, 49, 58, 53, 32, 98, 58, 49, 58, 45, 53]⟩, ⟨#[50, 32, 10]⟩, ⟨#[10]⟩] : List ByteArray).map Value.string).toArray) 9)) := (Below.refl _ _).alloc (Nat.le_refl _) _
      refine (of_any Sml R (P8 + 1) a len' cap wB.heap.size 0 5 5 _ (HRB2.out.below kc) (by omega) (by omega) (by omega) (by have := HRB2.out.lt; omega) (by simp) (strs_new wB 9 [⟨#[97, 32, 98]⟩, ⟨#[32]⟩, ⟨#[55, 32, 97, 58, 49, 58, 53, 32, 98, 58, 49, 58, 45, 53]⟩, ⟨#[50, 32, 10]⟩, ⟨#[10]⟩] Sml ?_)).mono ?_
      · intro s hs
        simp only [List.mem_cons, List.not_mem_nil, or_false] at hs
        rcases hs with rfl | rfl | rfl | rfl | rfl <;> (unfold Sml; decide)
      rintro e wC ⟨u, rfl, hu, hRC, hgC⟩
      have HOC : Hid (OwnE wC w.heap.size g n c ((k8, q8, 1, t8, m8) :: M')) := (HOB.out.below kc).grown hgC (by simpa using hRg)
      have HBC : Hid (Below w.heap.size w wC) := below_rd (HBB.out.trans (kc.mono HBB.out.size)) hgC (by have := HRW.out; omega)
      have HOD : Hid (OwnE (wC.setCell ⟨g, 3, none⟩ (.string u)) w.heap.size g n c ((k8, q8, 1, u, m8) :: M')) := own_set3 HOC.out (by unfold Sml at hu; unfold maxLen; omega)
      have HBD : Hid (Below w.heap.size w (wC.setCell ⟨g, 3, none⟩ (.string u))) := HBC.out.setCell HGW.out _
      clear kc hRC hgC
      have c0 : wC.cell? ⟨g, 0, none⟩ = some (.string k8) := (HOC.out.owns.cellAt 0 (by omega)).trans rfl
      have f0 : wC.frozen? ⟨g, 0, none⟩ = false := HOC.out.owns.frozenAt 0
      have c1 : wC.cell? ⟨g, 1, none⟩ = some (.int .i64 q8) := (HOC.out.owns.cellAt 1 (by omega)).trans rfl
      have f1 : wC.frozen? ⟨g, 1, none⟩ = false := HOC.out.owns.frozenAt 1
      have c2 : wC.cell? ⟨g, 2, none⟩ = some (.int .i64 1) := (HOC.out.owns.cellAt 2 (by omega)).trans rfl
      have f2 : wC.frozen? ⟨g, 2, none⟩ = false := HOC.out.owns.frozenAt 2
      have c3 : wC.cell? ⟨g, 3, none⟩ = some (.string t8) := (HOC.out.owns.cellAt 3 (by omega)).trans rfl
      have f3 : wC.frozen? ⟨g, 3, none⟩ = false := HOC.out.owns.frozenAt 3
      have c4 : wC.cell? ⟨g, 4, none⟩ = some (.int .i64 m8) := (HOC.out.owns.cellAt 4 (by omega)).trans rfl
      have f4 : wC.frozen? ⟨g, 4, none⟩ = false := HOC.out.owns.frozenAt 4
      have hgl := HOC.out.lt.2
      go_wp2
      go_ret
      exact ⟨g, n, c, _, rfl, HOD.out, hn13, HBD.out⟩
    · have hy0b : (y == 0) = false := by simpa using hy0
      go_wp2
      go_ret
      exact ⟨g, n, c, _, rfl, HOA.out, hn13, HBA.out⟩
  have hx0b : (x == 0) = false := by simpa using hx0
  go_wp2_with fail
  refine (pick_any R (P2 + 1 + 1) a len' cap 3 _ HR5.out (by omega) (by omega)).mono ?_
  rintro e wA ⟨y, rfl, hy, hRA, hgA⟩
  have HBA : Hid (Below w.heap.size w wA) := below_rd HB5.out hgA (by have := HRW.out; omega)
  have HOA : Hid (OwnE wA w.heap.size g n c ((k0, q0, d0, t0, m0) :: M')) := HO5.out.grown hgA (by simpa using hRg)
  have HRA : Hid (RdAt wA R a len' cap (P2 + 1 + 1 + 1)) := hRA
  clear hy hRA hgA
  by_cases hy0 : y = 0
  · subst hy0
    have c0 : wA.cell? ⟨g, 0, none⟩ = some (.string k0) := (HOA.out.owns.cellAt 0 (by omega)).trans rfl
    have f0 : wA.frozen? ⟨g, 0, none⟩ = false := HOA.out.owns.frozenAt 0
    have c1 : wA.cell? ⟨g, 1, none⟩ = some (.int .i64 q0) := (HOA.out.owns.cellAt 1 (by omega)).trans rfl
    have f1 : wA.frozen? ⟨g, 1, none⟩ = false := HOA.out.owns.frozenAt 1
    have c2 : wA.cell? ⟨g, 2, none⟩ = some (.int .i64 d0) := (HOA.out.owns.cellAt 2 (by omega)).trans rfl
    have f2 : wA.frozen? ⟨g, 2, none⟩ = false := HOA.out.owns.frozenAt 2
    have c3 : wA.cell? ⟨g, 3, none⟩ = some (.string t0) := (HOA.out.owns.cellAt 3 (by omega)).trans rfl
    have f3 : wA.frozen? ⟨g, 3, none⟩ = false := HOA.out.owns.frozenAt 3
    have c4 : wA.cell? ⟨g, 4, none⟩ = some (.int .i64 m0) := (HOA.out.owns.cellAt 4 (by omega)).trans rfl
    have f4 : wA.frozen? ⟨g, 4, none⟩ = false := HOA.out.owns.frozenAt 4
    have hgl := HOA.out.lt.2
    have HOB : Hid (OwnE (wA.setCell ⟨g, 2, none⟩ (.int .i64 1)) w.heap.size g n c ((k0, q0, 1, t0, m0) :: M')) := own_set2 HOA.out (by decide)
    have HRB2 : Hid (RdAt (wA.setCell ⟨g, 2, none⟩ (.int .i64 1)) R a len' cap (P2 + 1 + 1 + 1)) := HRA.out.other hRg HRB.out _ _
    have HBB : Hid (Below w.heap.size w (wA.setCell ⟨g, 2, none⟩ (.int .i64 1))) := HBA.out.setCell HGW.out _
    go_upto_region 7 with fail
    obtain ⟨wB, hwB⟩ : ∃ wB, wB = (wA.setCell ⟨g, 2, none⟩ (.int .i64 1)) := ⟨_, rfl⟩
    rw [← hwB]
    rw [← hwB] at HOB HRB2 HBB
    clear hwB c0 f0 c1 f1 c2 f2 c3 f3 c4 f4 hgl
    go_wp2_with fail
    have kc : Below wB.heap.size wB (wB.alloc (.cells ((([⟨#[97, 32, 98]⟩, ⟨#[32]⟩, ⟨#[55, 32, 97, 58, 49, 58, 53, 32, 98, 58, 49, 58, 45, 53]⟩, ⟨#[50, 32, 10]⟩, ⟨#[10]⟩] : List ByteArray).map Value.string).toArray) 9)) := (Below.refl _ _).alloc (Nat.le_refl _) _
    refine (of_any Sml R (P2 + 1 + 1 + 1) a len' cap wB.heap.size 0 5 5 _ (HRB2.out.below kc) (by omega) (by omega) (by omega) (by have := HRB2.out.lt; omega) (by simp) (strs_new wB 9 [⟨#[97, 32, 98]⟩, ⟨#[32]⟩, ⟨#[55, 32, 97, 58, 49, 58, 53, 32, 98, 58, 49, 58, 45, 53]⟩, ⟨#[50, 32, 10]⟩, ⟨#[10]⟩] Sml ?_)).mono ?_
    · intro s hs
      simp only [List.mem_cons, List.not_mem_nil, or_false] at hs
      rcases hs with rfl | rfl | rfl | rfl | rfl <;> (unfold Sml; decide)
    rintro e wC ⟨u, rfl, hu, hRC, hgC⟩
    have HOC : Hid (OwnE wC w.heap.size g n c ((k0, q0, 1, t0, m0) :: M')) := (HOB.out.below kc).grown hgC (by simpa using hRg)
    have HBC : Hid (Below w.heap.size w wC) := below_rd (HBB.out.trans (kc.mono HBB.out.size)) hgC (by have := HRW.out; omega)
    have HOD : Hid (OwnE (wC.setCell ⟨g, 3, none⟩ (.string u)) w.heap.size g n c ((k0, q0, 1, u, m0) :: M')) := own_set3 HOC.out (by unfold Sml at hu; unfold maxLen; omega)
    have HBD : Hid (Below w.heap.size w (wC.setCell ⟨g, 3, none⟩ (.string u))) := HBC.out.setCell HGW.out _
    clear kc hRC hgC
    have c0 : wC.cell? ⟨g, 0, none⟩ = some (.string k0) := (HOC.out.owns.cellAt 0 (by omega)).trans rfl
    have f0 : wC.frozen? ⟨g, 0, none⟩ = false := HOC.out.owns.frozenAt 0
    have c1 : wC.cell? ⟨g, 1, none⟩ = some (.int .i64 q0) := (HOC.out.owns.cellAt 1 (by omega)).trans rfl
    have f1 : wC.frozen? ⟨g, 1, none⟩ = false := HOC.out.owns.frozenAt 1
    have c2 : wC.cell? ⟨g, 2, none⟩ = some (.int .i64 1) := (HOC.out.owns.cellAt 2 (by omega)).trans rfl
    have f2 : wC.frozen? ⟨g, 2, none⟩ = false := HOC.out.owns.frozenAt 2
    have c3 : wC.cell? ⟨g, 3, none⟩ = some (.string t0) := (HOC.out.owns.cellAt 3 (by omega)).trans rfl
    have f3 : wC.frozen? ⟨g, 3, none⟩ = false := HOC.out.owns.frozenAt 3
    have c4 : wC.cell? ⟨g, 4, none⟩ = some (.int .i64 m0) := (HOC.out.owns.cellAt 4 (by omega)).trans rfl
    have f4 : wC.frozen? ⟨g, 4, none⟩ = false := HOC.out.owns.frozenAt 4
    have hgl := HOC.out.lt.2
    go_wp2
    go_ret
    exact ⟨g, n, c, _, rfl, HOD.out, hn13, HBD.out⟩
  · have hy0b : (y == 0) = false := by simpa using hy0
    go_wp2
    go_ret
    exact ⟨g, n, c, _, rfl, HOA.out, hn13, HBA.out⟩

end Go.Proofs.YtfblpbihpmhgjaaDoor
