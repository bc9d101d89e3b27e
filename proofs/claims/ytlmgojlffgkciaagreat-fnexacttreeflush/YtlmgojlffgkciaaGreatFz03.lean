/-
  Where a copy of a tree lies (its blocks, by kinds), and the laws' marks on it: only those blocks are written; by walks of their Go text.
  The reader from which the laws draw: how it lies in memory.
  A box of five cells, and what it keeps; no statement of the program stands here.
  A box of three cells, and what it keeps; no statement of the program stands here.
-/
import Derived.Deep.DeepCutAuto
import Derived.Test.YtlmgojlffgkciaaGreatFz01
import Derived.Test.YtlmgojlffgkciaaGreatFz02
import Derived.WalkKit
import Derived.WalkSpells
import Derived.WalkLawsBesides
import Derived.Deep.QuietTactic
import Derived.BigQuiet
import Derived.Test.YtlmgojlffgkciaaGreatProg
import Derived.Test.YtlmgojlffgkciaaGreatFz00
namespace Go.Proofs.YtlmgojlffgkciaaGreat
open Go.RowKit
set_option maxRecDepth 100000
set_option maxHeartbeats 2000000
attribute [local go_sem] Oper.semAt_some
def EntBl (lo hi : Nat) (w : World) (g m : Nat) : Prop := lo ≤ g ∧ g < hi ∧ BlockOf w g 78 (m * 5)
structure RunsBl (lo hi : Nat) (w : World) (g : Nat) (B : List RunD) : Prop where
  at1 : lo ≤ g
  at2 : g < hi
  blk : BlockOf w g 102 (B.length * 2)
  runs : ∀ (i : Nat) (p : RunD), B[i]? = some p → ∃ e, w.cell? ⟨g, i * 2, none⟩ = some (.slice (some ⟨e, 0, none⟩) p.1.length p.1.length) ∧ EntBl lo hi w e p.1.length
structure LevsBl (lo hi : Nat) (w : World) (g : Nat) (V : List (List RunD)) : Prop where
  at1 : lo ≤ g
  at2 : g < hi
  blk : BlockOf w g 64 (V.length * 1)
  levs : ∀ (i : Nat) (B : List RunD), V[i]? = some B → ∃ e, w.cell? ⟨g, i, none⟩ = some (.slice (some ⟨e, 0, none⟩) B.length B.length) ∧ RunsBl lo hi w e B
structure MarkT (lo hi : Nat) (w w' : World) : Prop where
  os : w'.os = w.os
  tape : w'.tape = w.tape
  output : w'.output = w.output
  size : w.heap.size ≤ w'.heap.size
  far : ∀ q, q < w.heap.size → (q < lo ∨ hi ≤ q) → w'.heap[q]? = w.heap[q]?
  blk : ∀ g t sz, BlockOf w g t sz → BlockOf w' g t sz
  sl : ∀ g sz o, BlockOf w g 64 sz → w'.cell? ⟨g, o, none⟩ = w.cell? ⟨g, o, none⟩
  ev : ∀ g sz j, BlockOf w g 102 sz → w'.cell? ⟨g, j * 2, none⟩ = w.cell? ⟨g, j * 2, none⟩
theorem MarkT.refl (lo hi : Nat) (w : World) : MarkT lo hi w w := ⟨rfl, rfl, rfl, Nat.le_refl _, fun _ _ _ => rfl, fun _ _ _ h => h, fun _ _ _ _ => rfl, fun _ _ _ _ => rfl⟩
theorem MarkT.trans {lo hi : Nat} {w w' w'' : World} (h : MarkT lo hi w w') (k : MarkT lo hi w' w'') : MarkT lo hi w w'' :=
  ⟨k.os.trans h.os, k.tape.trans h.tape, k.output.trans h.output, Nat.le_trans h.size k.size, fun q hq ho => (k.far q (Nat.lt_of_lt_of_le hq h.size) ho).trans (h.far q hq ho), fun g t sz hg => k.blk g t sz (h.blk g t sz hg), fun g sz o hb => (k.sl g sz o (h.blk _ _ _ hb)).trans (h.sl g sz o hb), fun g sz j hb => (k.ev g sz j (h.blk _ _ _ hb)).trans (h.ev g sz j hb)⟩
theorem MarkT.of_below {lo hi : Nat} {w w' : World} (h : Below w.heap.size w w') : MarkT lo hi w w' :=
  ⟨h.os, h.tape, h.output, h.size, fun q hq _ => h.block q hq, fun _ _ _ hg => hg.below h, fun _ _ _ hb => World.cell?_of_block (h.block _ hb.lt), fun _ _ _ hb => World.cell?_of_block (h.block _ hb.lt)⟩
theorem MarkT.set {lo hi g o T sz : Nat} {w : World} (v : Value) (hB : BlockOf w g T sz) (h1 : lo ≤ g) (h2 : g < hi) (t1 : T ≠ 64) (t2 : T ≠ 102) : MarkT lo hi w (w.setCell ⟨g, o, none⟩ v) :=
  ⟨rfl, rfl, rfl, by simp [World.setCell], fun q _ hq => Below.heap_setCell _ _ _ _ (fun e => by have e' : q = g := e; omega), fun _ _ _ hg => hg.setCell v,
    fun g' sz' o' hb => World.cell?_setCell_other _ _ _ _ (fun e => by have e' : g' = g := by cases e; rfl
                                                                       subst e'; exact t1 (hB.kind hb)),
    fun g' sz' j hb => World.cell?_setCell_other _ _ _ _ (fun e => by have e' : g' = g := by (simp only [Addr.mk.injEq] at e; exact e.1.symm)
                                                                      subst e'; exact t2 (hB.kind hb))⟩
theorem MarkT.setOdd {lo hi g j sz : Nat} {w : World} (v : Value) (hB : BlockOf w g 102 sz) (h1 : lo ≤ g) (h2 : g < hi) : MarkT lo hi w (w.setCell ⟨g, j * 2 + 1, none⟩ v) :=
  ⟨rfl, rfl, rfl, by simp [World.setCell], fun q _ hq => Below.heap_setCell _ _ _ _ (fun e => by have e' : q = g := e; omega), fun _ _ _ hg => hg.setCell v,
    fun g' sz' o' hb => World.cell?_setCell_other _ _ _ _ (fun e => by have e' : g' = g := by (simp only [Addr.mk.injEq] at e; exact e.1.symm)
                                                                       subst e'; exact absurd (hB.kind hb) (by decide)),
    fun g' sz' i hb => World.cell?_setCell_other _ _ _ _ (fun e => by simp only [Addr.mk.injEq] at e; omega)⟩
theorem MarkT.below {lo hi B : Nat} {w w' : World} (h : MarkT lo hi w w') (hB : B ≤ lo) (hw : B ≤ w.heap.size) : Below B w w' :=
  ⟨h.os, h.tape, h.output, h.size, fun q hq => h.far q (by omega) (Or.inl (by omega))⟩
theorem EntBl.mark {lo hi lo' hi' g m : Nat} {w w' : World} (h : EntBl lo hi w g m) (k : MarkT lo' hi' w w') : EntBl lo hi w' g m := ⟨h.1, h.2.1, k.blk _ _ _ h.2.2⟩
theorem RunsBl.mark {lo hi lo' hi' g : Nat} {w w' : World} {B : List RunD} (h : RunsBl lo hi w g B) (k : MarkT lo' hi' w w') : RunsBl lo hi w' g B :=
  ⟨h.at1, h.at2, k.blk _ _ _ h.blk, fun i p hp => by obtain ⟨e, c, b⟩ := h.runs i p hp; exact ⟨e, (k.ev _ _ _ h.blk).trans c, b.mark k⟩⟩
theorem LevsBl.mark {lo hi lo' hi' g : Nat} {w w' : World} {V : List (List RunD)} (h : LevsBl lo hi w g V) (k : MarkT lo' hi' w w') : LevsBl lo hi w' g V :=
  ⟨h.at1, h.at2, k.blk _ _ _ h.blk, fun i p hp => by obtain ⟨e, c, b⟩ := h.levs i p hp; exact ⟨e, (k.sl _ _ _ h.blk).trans c, b.mark k⟩⟩
theorem EntBl.mono {lo hi lo' hi' g m : Nat} {w : World} (h : EntBl lo hi w g m) (h1 : lo' ≤ lo) (h2 : hi ≤ hi') : EntBl lo' hi' w g m := ⟨Nat.le_trans h1 h.1, Nat.lt_of_lt_of_le h.2.1 h2, h.2.2⟩
theorem RunsBl.mono {lo hi lo' hi' g : Nat} {w : World} {B : List RunD} (h : RunsBl lo hi w g B) (h1 : lo' ≤ lo) (h2 : hi ≤ hi') : RunsBl lo' hi' w g B :=
  ⟨Nat.le_trans h1 h.at1, Nat.lt_of_lt_of_le h.at2 h2, h.blk, fun i p hp => by obtain ⟨e, c, b⟩ := h.runs i p hp; exact ⟨e, c, b.mono h1 h2⟩⟩
theorem LevsBl.mono {lo hi lo' hi' g : Nat} {w : World} {V : List (List RunD)} (h : LevsBl lo hi w g V) (h1 : lo' ≤ lo) (h2 : hi ≤ hi') : LevsBl lo' hi' w g V :=
  ⟨Nat.le_trans h1 h.at1, Nat.lt_of_lt_of_le h.at2 h2, h.blk, fun i p hp => by obtain ⟨e, c, b⟩ := h.levs i p hp; exact ⟨e, c, b.mono h1 h2⟩⟩
def mkR (B : List RunD) : Nat := (B.map fun p => 5 * p.1.length + 1).sum
def mkV (V : List (List RunD)) : Nat := (V.map mkR).sum
theorem mkR_take {B : List RunD} {k : Nat} {p : RunD} (h : B[k]? = some p) : mkR (B.take (k + 1)) = mkR (B.take k) + (5 * p.1.length + 1) := by
  rw [List.take_add_one, h]
  simp [mkR]
theorem mkV_take {V : List (List RunD)} {k : Nat} {B : List RunD} (h : V[k]? = some B) : mkV (V.take (k + 1)) = mkV (V.take k) + mkR B := by
  rw [List.take_add_one, h]
  simp [mkV]
theorem mkR_le (B : List RunD) (k : Nat) : mkR (B.take k) ≤ mkR B := by
  have h : mkR B = mkR (B.take k) + mkR (B.drop k) := by
    conv => lhs; rw [← List.take_append_drop k B]
    simp only [mkR, List.map_append, List.sum_append]
  omega
theorem mkV_le (V : List (List RunD)) (k : Nat) : mkV (V.take k) ≤ mkV V := by
  have h : mkV V = mkV (V.take k) + mkV (V.drop k) := by
    conv => lhs; rw [← List.take_append_drop k V]
    simp only [mkV, List.map_append, List.sum_append]
  omega
theorem markEnts_bl (lo hi g m k : Nat) (w : World) (hE : EntBl lo hi w g m) (hcm : m ≤ 1048576) (hk : 1 ≤ k) (hn : k + 5 * m ≤ 1000000000) :
    Calls Tryz.prog 27 #[.slice (some ⟨g, 0, none⟩) m m, .int .i64 k] w fun e w' => e = .returned (.int .i64 ((k + 5 * m : Nat) : Int)) ∧ MarkT lo hi w w' := by
  obtain ⟨h1, h2, hB⟩ := hE
  have HB0 : Hid (BlockOf w g 78 (m * 5)) := hB
  clear hB
  go_enter Tryz.func27, Tryz.ntmps27
  go_wp2
  go_loopw [1, 5] (fun kv iv wr => ∃ (j : Nat), j ≤ m ∧ iv = .int .i64 j ∧ kv = .int .i64 ((k + 5 * j : Nat) : Int) ∧ MarkT lo hi w wr) (fun _ iv _ => m - (intOf iv).toNat)
  case atStart => exact ⟨0, Nat.zero_le _, rfl, rfl, MarkT.refl _ _ _⟩
  case round =>
    obtain ⟨j, hj, rfl, rfl, hM⟩ := hrel
    have HM : Hid (MarkT lo hi w wr) := hM
    clear hM
    obtain ⟨K, hK⟩ : ∃ K, K = k + 5 * j := ⟨_, rfl⟩
    have HK : Hid (K = k + 5 * j) := hK
    rw [← hK]
    by_cases hlt : j < m
    · have hK1 : 1 ≤ K := by omega
      have hK2 : K + 5 ≤ 1000000000 := by omega
      have hltI : (j : Int) < (m : Int) := by omega
      clear hK
      go_wp2_with fail
      refine (markText_any K _ hK1 (by omega)).mono ?_
      rintro e w1 ⟨rfl, hb1⟩
      have HM1 : Hid (MarkT lo hi w w1) := HM.out.trans (MarkT.of_below hb1)
      have hbk := HM1.out.blk _ _ _ HB0.out
      obtain ⟨v0, c0⟩ := hbk.cell (o := j * 5) (by omega)
      obtain ⟨v1, c1⟩ := hbk.cell (o := j * 5 + 1) (by omega)
      obtain ⟨v2, c2⟩ := hbk.cell (o := j * 5 + 2) (by omega)
      have f0 := hbk.frozen (j * 5)
      have f1 := hbk.frozen (j * 5 + 1)
      have f2 := hbk.frozen (j * 5 + 2)
      have hg1 := hbk.lt
      have HBK : Hid (BlockOf w1 g 78 (m * 5)) := hbk
      have CM : Hid (∀ w, Calls Tryz.prog 61 #[.int .i64 ((K : Int) + 1 + 1 + 1)] w fun e w' => e = .returned (.string (markT (K + 3))) ∧ Below w.heap.size w w') := by
        have e3 : (K : Int) + 1 + 1 + 1 = ((K + 3 : Nat) : Int) := by omega
        rw [e3]
        exact fun w => markText_any (K + 3) w (by omega) (by omega)
      clear hb1 hbk
      go_wp2_with fail
      obtain ⟨W1, hW1⟩ : ∃ W1, W1 = (((w1.setCell ⟨g, j * 5, none⟩ (.string (markT K))).setCell ⟨g, j * 5 + 1, none⟩ (.int .i64 ((K : Int) + 1))).setCell ⟨g, j * 5 + 2, none⟩ (.int .i64 ((K : Int) + 1 + 1))) := ⟨_, rfl⟩
      have HM2 : Hid (MarkT lo hi w W1) := by
        rw [hW1]
        exact ((HM1.out.trans (MarkT.set _ HBK.out h1 h2 (by decide) (by decide))).trans (MarkT.set _ (HBK.out.setCell _) h1 h2 (by decide) (by decide))).trans (MarkT.set _ ((HBK.out.setCell _).setCell _) h1 h2 (by decide) (by decide))
      rw [← hW1]
      clear hW1 c0 c1 c2 f0 f1 f2
      refine (CM.out _).mono ?_
      rintro e w2 ⟨rfl, hb2⟩
      have HM3 : Hid (MarkT lo hi w w2) := HM2.out.trans (MarkT.of_below hb2)
      have hbk := HM3.out.blk _ _ _ HB0.out
      obtain ⟨v3, c3⟩ := hbk.cell (o := j * 5 + 3) (by omega)
      obtain ⟨v4, c4⟩ := hbk.cell (o := j * 5 + 4) (by omega)
      have f3 := hbk.frozen (j * 5 + 3)
      have f4 := hbk.frozen (j * 5 + 4)
      have hg2 := hbk.lt
      have HBK3 : Hid (BlockOf w2 g 78 (m * 5)) := hbk
      clear hb2 hbk
      go_wp2
      go_roundw
      case rel =>
        refine ⟨j + 1, by omega, by go_num, by have := HK.out; go_num, ?_⟩
        exact (HM3.out.trans (MarkT.set _ HBK3.out h1 h2 (by decide) (by decide))).trans (MarkT.set _ (HBK3.out.setCell _) h1 h2 (by decide) (by decide))
      case measure => simp [intOf]; omega
    · have hltI : ¬ (j : Int) < (m : Int) := by omega
      have hjm : j = m := by omega
      go_wp2
      go_ret
      exact ⟨by first | rfl | simp | (rw [hK, hjm]), HM.out⟩
theorem markInts_bl (lo hi g m k : Nat) (w : World) (h1 : lo ≤ g) (h2 : g < hi) (hB : BlockOf w g 3 (m * 1)) (hn : k + m ≤ 1000000000) :
    Calls Tryz.prog 47 #[.slice (some ⟨g, 0, none⟩) m m, .int .i64 k] w fun e w' => e = .returned (.int .i64 ((k + m : Nat) : Int)) ∧ MarkT lo hi w w' := by
  have HB0 : Hid (BlockOf w g 3 (m * 1)) := hB
  clear hB
  go_enter Tryz.func47, Tryz.ntmps47
  go_wp2
  go_loopw [1, 5] (fun kv iv wr => ∃ (j : Nat), j ≤ m ∧ iv = .int .i64 j ∧ kv = .int .i64 ((k + j : Nat) : Int) ∧ MarkT lo hi w wr) (fun _ iv _ => m - (intOf iv).toNat)
  case atStart => exact ⟨0, Nat.zero_le _, rfl, rfl, MarkT.refl _ _ _⟩
  case round =>
    obtain ⟨j, hj, rfl, rfl, hM⟩ := hrel
    have HM : Hid (MarkT lo hi w wr) := hM
    have hbk := hM.blk _ _ _ HB0.out
    clear hM
    obtain ⟨K, hK⟩ : ∃ K, K = k + j := ⟨_, rfl⟩
    have HK : Hid (K = k + j) := hK
    rw [← hK]
    have hK2 : K ≤ 1000000000 := by omega
    clear hK
    by_cases hlt : j < m
    · have hltI : (j : Int) < (m : Int) := by omega
      obtain ⟨v0, c0⟩ := hbk.cell (o := j) (by omega)
      have f0 := hbk.frozen j
      have hg1 := hbk.lt
      have HBK : Hid (BlockOf wr g 3 (m * 1)) := hbk
      clear hbk
      go_wp2
      go_roundw
      case rel => exact ⟨j + 1, by omega, by go_num, by have := HK.out; go_num, HM.out.trans (MarkT.set _ HBK.out h1 h2 (by decide) (by decide))⟩
      case measure => simp [intOf]; omega
    · have hltI : ¬ (j : Int) < (m : Int) := by omega
      have HKN : Hid (K = k + m) := by have := HK.out; show K = k + m; omega
      clear hbk
      go_wp2
      go_ret
      exact ⟨by rw [HKN.out]; first | rfl | simp, HM.out⟩
theorem markRuns_bl (lo hi g n k : Nat) (B : List RunD) (w : World) (hR : RunsBl lo hi w g B) (hln : B.length = n) (hcm : n ≤ 1048576) (hsm : ∀ p ∈ B, p.1.length ≤ 1048576) (hk : 1 ≤ k) (hn : k + mkR B ≤ 1000000000) :
    Calls Tryz.prog 83 #[.slice (some ⟨g, 0, none⟩) n n, .int .i64 k] w fun e w' => e = .returned (.int .i64 ((k + mkR B : Nat) : Int)) ∧ MarkT lo hi w w' := by
  have h1 := hR.at1
  have h2 := hR.at2
  have HR0 : Hid (RunsBl lo hi w g B) := hR
  have HLN : Hid (B.length = n) := hln
  have HSM : Hid (∀ p ∈ B, p.1.length ≤ 1048576) := hsm
  have HN : Hid (k + mkR B ≤ 1000000000) := hn
  clear hR hsm hn hln
  go_enter Tryz.func83, Tryz.ntmps83
  go_wp2
  go_loopw [1, 5] (fun kv iv wr => ∃ (j K : Nat), j ≤ n ∧ iv = .int .i64 j ∧ kv = .int .i64 (K : Int) ∧ K = k + mkR (B.take j) ∧ MarkT lo hi w wr) (fun _ iv _ => n - (intOf iv).toNat)
  case atStart => exact ⟨0, k, Nat.zero_le _, rfl, rfl, by simp [mkR], MarkT.refl _ _ _⟩
  case round =>
    obtain ⟨j, K, hj, rfl, rfl, hK, hM⟩ := hrel
    have HM : Hid (MarkT lo hi w wr) := hM
    have hR := HR0.out.mark hM
    have HK : Hid (K = k + mkR (B.take j)) := hK
    clear hK hM
    by_cases hlt : j < n
    · have hltI : (j : Int) < (n : Int) := by omega
      obtain ⟨p, hp⟩ : ∃ p, B[j]? = some p := ⟨_, List.getElem?_eq_getElem (by rw [HLN.out]; exact hlt)⟩
      obtain ⟨e, c0, hE⟩ := hR.runs j p hp
      have hsp := HSM.out p (List.mem_of_getElem? hp)
      have HNX : Hid (mkR (B.take (j + 1)) = mkR (B.take j) + (5 * p.1.length + 1)) := mkR_take hp
      have hle : K + 5 * p.1.length + 1 ≤ 1000000000 := by
        have a1 := mkR_le B (j + 1)
        have a2 := HNX.out
        have a3 := HN.out
        have a4 := HK.out
        omega
      have hk1 : 1 ≤ K := by have := HK.out; omega
      obtain ⟨m, hm⟩ : ∃ m, p.1.length = m := ⟨_, rfl⟩
      have HMM : Hid (p.1.length = m) := hm
      rw [hm] at c0 hE hsp hle
      have hgw := hR.blk.lt
      have HE : Hid (EntBl lo hi wr e m) := hE
      clear hm hE hp hR
      go_wp2_with fail
      refine (markEnts_bl lo hi e m K wr HE.out hsp hk1 (by omega)).mono ?_
      rintro e' w1 ⟨rfl, hM1⟩
      have HM1 : Hid (MarkT lo hi w w1) := HM.out.trans hM1
      have hR1 := HR0.out.mark HM1.out
      have hbk := hR1.blk
      rw [HLN.out] at hbk
      obtain ⟨v1, c1⟩ := hbk.cell (o := j * 2 + 1) (by omega)
      have f1 := hbk.frozen (j * 2 + 1)
      have hg1 := hbk.lt
      have HBK : Hid (BlockOf w1 g 102 (n * 2)) := hbk
      obtain ⟨K1, hK1⟩ : ∃ K1 : Nat, K1 = K + 5 * m := ⟨_, rfl⟩
      have HK1 : Hid (K1 = K + 5 * m) := hK1
      rw [← hK1]
      have hK1b : K1 ≤ 1000000000 := by omega
      clear hbk hR1 hM1 hK1 c0
      go_wp2
      go_roundw
      case rel =>
        refine ⟨j + 1, K1 + 1, by omega, by go_num, by go_num, ?_, HM1.out.trans (MarkT.setOdd _ HBK.out h1 h2)⟩
        have a1 := HNX.out
        have a2 := HK.out
        have a3 := HK1.out
        have a4 := HMM.out
        omega
      case measure => simp [intOf]; omega
    · have hltI : ¬ (j : Int) < (n : Int) := by omega
      have HKN : Hid (K = k + mkR B) := by
        have := HK.out
        rw [List.take_of_length_le (by rw [HLN.out]; omega)] at this
        exact this
      clear hR
      go_wp2
      go_ret
      exact ⟨by have e := HKN.out; first | rfl | (subst e; rfl) | (rw [e]; simp) | (simp [e]), HM.out⟩
theorem markLevs_bl (lo hi g n k : Nat) (V : List (List RunD)) (w : World) (hR : LevsBl lo hi w g V) (hln : V.length = n) (hcm : n ≤ 1048576) (hsm : ∀ B ∈ V, B.length ≤ 1048576 ∧ ∀ p ∈ B, p.1.length ≤ 1048576) (hk : 1 ≤ k) (hn : k + mkV V ≤ 1000000000) :
    Calls Tryz.prog 46 #[.slice (some ⟨g, 0, none⟩) n n, .int .i64 k] w fun e w' => e = .returned (.int .i64 ((k + mkV V : Nat) : Int)) ∧ MarkT lo hi w w' := by
  have HR0 : Hid (LevsBl lo hi w g V) := hR
  have HLN : Hid (V.length = n) := hln
  have HSM : Hid (∀ B ∈ V, B.length ≤ 1048576 ∧ ∀ p ∈ B, p.1.length ≤ 1048576) := hsm
  have HN : Hid (k + mkV V ≤ 1000000000) := hn
  clear hR hsm hn hln
  go_enter Tryz.func46, Tryz.ntmps46
  go_wp2
  go_loopw [1, 5] (fun kv iv wr => ∃ (j K : Nat), j ≤ n ∧ iv = .int .i64 j ∧ kv = .int .i64 (K : Int) ∧ K = k + mkV (V.take j) ∧ MarkT lo hi w wr) (fun _ iv _ => n - (intOf iv).toNat)
  case atStart => exact ⟨0, k, Nat.zero_le _, rfl, rfl, by simp [mkV], MarkT.refl _ _ _⟩
  case round =>
    obtain ⟨j, K, hj, rfl, rfl, hK, hM⟩ := hrel
    have HM : Hid (MarkT lo hi w wr) := hM
    have hR := HR0.out.mark hM
    have HK : Hid (K = k + mkV (V.take j)) := hK
    clear hK hM
    by_cases hlt : j < n
    · have hltI : (j : Int) < (n : Int) := by omega
      obtain ⟨B, hp⟩ : ∃ B, V[j]? = some B := ⟨_, List.getElem?_eq_getElem (by rw [HLN.out]; exact hlt)⟩
      obtain ⟨e, c0, hE⟩ := hR.levs j B hp
      have hsp := HSM.out B (List.mem_of_getElem? hp)
      have HNX : Hid (mkV (V.take (j + 1)) = mkV (V.take j) + mkR B) := mkV_take hp
      have hle : K + mkR B ≤ 1000000000 := by
        have a1 := mkV_le V (j + 1)
        have a2 := HNX.out
        have a3 := HN.out
        have a4 := HK.out
        omega
      have hk1 : 1 ≤ K := by have := HK.out; omega
      obtain ⟨m, hm⟩ : ∃ m, B.length = m := ⟨_, rfl⟩
      rw [hm] at c0 hsp
      have CM : Hid (Calls Tryz.prog 83 #[.slice (some ⟨e, 0, none⟩) m m, .int .i64 (K : Int)] wr fun e w' => e = .returned (.int .i64 ((K + mkR B : Nat) : Int)) ∧ MarkT lo hi wr w') := markRuns_bl lo hi e m K B wr hE hm hsp.1 hsp.2 hk1 hle
      obtain ⟨hsp, _⟩ := hsp
      have hgw := hR.blk.lt
      clear hm hE hp hR
      obtain ⟨K1, hK1⟩ : ∃ K1 : Nat, K1 = K + mkR B := ⟨_, rfl⟩
      have HK1 : Hid (K1 = K + mkR B) := hK1
      rw [← hK1] at CM
      have hK1b : K1 ≤ 1000000000 := by omega
      clear hK1 hle
      go_wp2_with fail
      refine CM.out.mono ?_
      rintro e' w1 ⟨rfl, hM1⟩
      have HM1 : Hid (MarkT lo hi w w1) := HM.out.trans hM1
      clear hM1 c0
      go_wp2
      go_roundw
      case rel =>
        refine ⟨j + 1, K1, by omega, by go_num, rfl, ?_, HM1.out⟩
        have a1 := HNX.out
        have a2 := HK.out
        have a3 := HK1.out
        omega
      case measure => simp [intOf]; omega
    · have hltI : ¬ (j : Int) < (n : Int) := by omega
      have HKN : Hid (K = k + mkV V) := by
        have := HK.out
        rw [List.take_of_length_le (by rw [HLN.out]; omega)] at this
        exact this
      clear hR
      go_wp2
      go_ret
      exact ⟨by have e := HKN.out; first | rfl | (subst e; rfl) | (rw [e]; simp) | (simp [e]), HM.out⟩
end Go.Proofs.YtlmgojlffgkciaaGreat

namespace Go.Proofs.YtlmgojlffgkciaaGreat
open Go.RowKit
theorem grown_trans {a b c : World} {R : Option Nat} (h : a.grownBy b R) (k : b.grownBy c R) : a.grownBy c R :=
  ⟨k.os.trans h.os, k.tape.trans h.tape, k.output.trans h.output, Nat.le_trans h.size k.size, fun i hi hn => (k.block i (Nat.lt_of_lt_of_le hi h.size) hn).trans (h.block i hi hn)⟩
theorem grown_cell {w w' : World} {R : Nat} (hg : w.grownBy w' (some R)) {x : Addr} (hx : x.block < w.heap.size) (hn : x.block ≠ R) : w'.cell? x = w.cell? x :=
  World.cell?_of_block (hg.block x.block hx (fun e => hn (by cases e; rfl)))
theorem grown_below {w w' : World} {R : Option Nat} (h : Below w.heap.size w w') : w.grownBy w' R := ⟨h.os, h.tape, h.output, h.size, fun k hk _ => h.block k hk⟩
end Go.Proofs.YtlmgojlffgkciaaGreat

namespace Go.Proofs.YtlmgojlffgkciaaGreat
open Go.RowKit
structure Box5 (w : World) (X : Nat) (v0 v1 v2 v3 v4 : Value) : Prop where
  c0 : w.cell? ⟨X, 0, none⟩ = some v0
  c1 : w.cell? ⟨X, 1, none⟩ = some v1
  c2 : w.cell? ⟨X, 2, none⟩ = some v2
  c3 : w.cell? ⟨X, 3, none⟩ = some v3
  c4 : w.cell? ⟨X, 4, none⟩ = some v4
  fr : ∀ o, w.frozen? ⟨X, o, none⟩ = false
theorem Box5.lt {w : World} {X : Nat} {v0 v1 v2 v3 v4 : Value} (h : Box5 w X v0 v1 v2 v3 v4) : X < w.heap.size := World.block_lt_of_cell? _ _ h.c0
theorem Box5.new (w : World) (T : TypeId) (v0 v1 v2 v3 v4 : Value) : Box5 (w.alloc (.cells #[v0, v1, v2, v3, v4] T)) w.heap.size v0 v1 v2 v3 v4 :=
  ⟨by simp, by simp, by simp, by simp, by simp, fun o => World.frozen?_alloc_new w _ _ o⟩
theorem Box5.below {w w' : World} {X : Nat} {v0 v1 v2 v3 v4 : Value} (h : Box5 w X v0 v1 v2 v3 v4) (hb : Below w.heap.size w w') : Box5 w' X v0 v1 v2 v3 v4 :=
  ⟨cell_later hb h.c0, cell_later hb h.c1, cell_later hb h.c2, cell_later hb h.c3, cell_later hb h.c4, fun o => (hb.frozen (p := ⟨X, o, none⟩) h.lt).trans (h.fr o)⟩
theorem Box5.alloc {w : World} {X : Nat} {v0 v1 v2 v3 v4 : Value} (h : Box5 w X v0 v1 v2 v3 v4) (o : Obj) : Box5 (w.alloc o) X v0 v1 v2 v3 v4 := h.below ((Below.refl _ _).alloc (Nat.le_refl _) _)
theorem Box5.other {w : World} {X Y : Nat} {v0 v1 v2 v3 v4 : Value} (h : Box5 w X v0 v1 v2 v3 v4) (hn : X ≠ Y) (o : Nat) (v : Value) : Box5 (w.setCell ⟨Y, o, none⟩ v) X v0 v1 v2 v3 v4 := by
  have ne : ∀ i, (⟨Y, o, none⟩ : Addr) ≠ ⟨X, i, none⟩ := fun i e => hn (congrArg Addr.block e).symm
  exact ⟨by rw [World.cell?_setCell_other _ _ _ _ (ne 0)]; exact h.c0, by rw [World.cell?_setCell_other _ _ _ _ (ne 1)]; exact h.c1, by rw [World.cell?_setCell_other _ _ _ _ (ne 2)]; exact h.c2, by rw [World.cell?_setCell_other _ _ _ _ (ne 3)]; exact h.c3, by rw [World.cell?_setCell_other _ _ _ _ (ne 4)]; exact h.c4, fun o' => by rw [World.frozen?_setCell]; exact h.fr o'⟩
theorem Box5.set0 {w : World} {X : Nat} {v0 v1 v2 v3 v4 : Value} (h : Box5 w X v0 v1 v2 v3 v4) (v : Value) : Box5 (w.setCell ⟨X, 0, none⟩ v) X v v1 v2 v3 v4 := by
  refine ⟨World.cell?_setCell_same' _ _ _ (by rw [h.c0]; rfl), ?_, ?_, ?_, ?_, fun o' => by rw [World.frozen?_setCell]; exact h.fr o'⟩
  · rw [World.cell?_setCell_other _ _ _ _ (by simp)]; exact h.c1
  · rw [World.cell?_setCell_other _ _ _ _ (by simp)]; exact h.c2
  · rw [World.cell?_setCell_other _ _ _ _ (by simp)]; exact h.c3
  · rw [World.cell?_setCell_other _ _ _ _ (by simp)]; exact h.c4
theorem Box5.set1 {w : World} {X : Nat} {v0 v1 v2 v3 v4 : Value} (h : Box5 w X v0 v1 v2 v3 v4) (v : Value) : Box5 (w.setCell ⟨X, 1, none⟩ v) X v0 v v2 v3 v4 := by
  refine ⟨?_, World.cell?_setCell_same' _ _ _ (by rw [h.c1]; rfl), ?_, ?_, ?_, fun o' => by rw [World.frozen?_setCell]; exact h.fr o'⟩
  · rw [World.cell?_setCell_other _ _ _ _ (by simp)]; exact h.c0
  · rw [World.cell?_setCell_other _ _ _ _ (by simp)]; exact h.c2
  · rw [World.cell?_setCell_other _ _ _ _ (by simp)]; exact h.c3
  · rw [World.cell?_setCell_other _ _ _ _ (by simp)]; exact h.c4
theorem Box5.set2 {w : World} {X : Nat} {v0 v1 v2 v3 v4 : Value} (h : Box5 w X v0 v1 v2 v3 v4) (v : Value) : Box5 (w.setCell ⟨X, 2, none⟩ v) X v0 v1 v v3 v4 := by
  refine ⟨?_, ?_, World.cell?_setCell_same' _ _ _ (by rw [h.c2]; rfl), ?_, ?_, fun o' => by rw [World.frozen?_setCell]; exact h.fr o'⟩
  · rw [World.cell?_setCell_other _ _ _ _ (by simp)]; exact h.c0
  · rw [World.cell?_setCell_other _ _ _ _ (by simp)]; exact h.c1
  · rw [World.cell?_setCell_other _ _ _ _ (by simp)]; exact h.c3
  · rw [World.cell?_setCell_other _ _ _ _ (by simp)]; exact h.c4
theorem Box5.set3 {w : World} {X : Nat} {v0 v1 v2 v3 v4 : Value} (h : Box5 w X v0 v1 v2 v3 v4) (v : Value) : Box5 (w.setCell ⟨X, 3, none⟩ v) X v0 v1 v2 v v4 := by
  refine ⟨?_, ?_, ?_, World.cell?_setCell_same' _ _ _ (by rw [h.c3]; rfl), ?_, fun o' => by rw [World.frozen?_setCell]; exact h.fr o'⟩
  · rw [World.cell?_setCell_other _ _ _ _ (by simp)]; exact h.c0
  · rw [World.cell?_setCell_other _ _ _ _ (by simp)]; exact h.c1
  · rw [World.cell?_setCell_other _ _ _ _ (by simp)]; exact h.c2
  · rw [World.cell?_setCell_other _ _ _ _ (by simp)]; exact h.c4
theorem Box5.set4 {w : World} {X : Nat} {v0 v1 v2 v3 v4 : Value} (h : Box5 w X v0 v1 v2 v3 v4) (v : Value) : Box5 (w.setCell ⟨X, 4, none⟩ v) X v0 v1 v2 v3 v := by
  refine ⟨?_, ?_, ?_, ?_, World.cell?_setCell_same' _ _ _ (by rw [h.c4]; rfl), fun o' => by rw [World.frozen?_setCell]; exact h.fr o'⟩
  · rw [World.cell?_setCell_other _ _ _ _ (by simp)]; exact h.c0
  · rw [World.cell?_setCell_other _ _ _ _ (by simp)]; exact h.c1
  · rw [World.cell?_setCell_other _ _ _ _ (by simp)]; exact h.c2
  · rw [World.cell?_setCell_other _ _ _ _ (by simp)]; exact h.c3
theorem Box5.setAll {w : World} {X : Nat} {v0 v1 v2 v3 v4 : Value} (h : Box5 w X v0 v1 v2 v3 v4) (u0 u1 u2 u3 u4 : Value) : Box5 (((((w.setCell ⟨X, 0, none⟩ u0).setCell ⟨X, 1, none⟩ u1).setCell ⟨X, 2, none⟩ u2).setCell ⟨X, 3, none⟩ u3).setCell ⟨X, 4, none⟩ u4) X u0 u1 u2 u3 u4 :=
  ((((h.set0 u0).set1 u1).set2 u2).set3 u3).set4 u4
end Go.Proofs.YtlmgojlffgkciaaGreat
namespace Go.Proofs.YtlmgojlffgkciaaGreat
open Go.RowKit
structure Box3 (w : World) (X : Nat) (v0 v1 v2 : Value) : Prop where
  c0 : w.cell? ⟨X, 0, none⟩ = some v0
  c1 : w.cell? ⟨X, 1, none⟩ = some v1
  c2 : w.cell? ⟨X, 2, none⟩ = some v2
  fr : ∀ o, w.frozen? ⟨X, o, none⟩ = false
theorem Box3.lt {w : World} {X : Nat} {v0 v1 v2 : Value} (h : Box3 w X v0 v1 v2) : X < w.heap.size := World.block_lt_of_cell? _ _ h.c0
theorem Box3.new (w : World) (T : TypeId) (v0 v1 v2 : Value) : Box3 (w.alloc (.cells #[v0, v1, v2] T)) w.heap.size v0 v1 v2 :=
  ⟨by simp, by simp, by simp, fun o => World.frozen?_alloc_new w _ _ o⟩
theorem Box3.below {w w' : World} {X : Nat} {v0 v1 v2 : Value} (h : Box3 w X v0 v1 v2) (hb : Below w.heap.size w w') : Box3 w' X v0 v1 v2 :=
  ⟨cell_later hb h.c0, cell_later hb h.c1, cell_later hb h.c2, fun o => (hb.frozen (p := ⟨X, o, none⟩) h.lt).trans (h.fr o)⟩
theorem Box3.alloc {w : World} {X : Nat} {v0 v1 v2 : Value} (h : Box3 w X v0 v1 v2) (o : Obj) : Box3 (w.alloc o) X v0 v1 v2 := h.below ((Below.refl _ _).alloc (Nat.le_refl _) _)
theorem Box3.grown {w w' : World} {X R : Nat} {v0 v1 v2 : Value} (h : Box3 w X v0 v1 v2) (hg : w.grownBy w' (some R)) (hn : X ≠ R) : Box3 w' X v0 v1 v2 :=
  ⟨(grown_cell hg (x := ⟨X, 0, none⟩) h.lt hn).trans h.c0, (grown_cell hg (x := ⟨X, 1, none⟩) h.lt hn).trans h.c1, (grown_cell hg (x := ⟨X, 2, none⟩) h.lt hn).trans h.c2, fun o => (World.frozen?_of_block (hg.block X h.lt (fun e => hn (by cases e; rfl)))).trans (h.fr o)⟩
end Go.Proofs.YtlmgojlffgkciaaGreat
