/-
  The laws' marks on postings: what is changed lies in the postings' own blocks; by walks of their Go text.
-/
import Derived.Test.YtfblpbihpmhgjaaDoorBp45
import Derived.Test.YtfblpbihpmhgjaaDoorBp46
import Derived.Test.YtfblpbihpmhgjaaDoorBp19
import Derived.Deep.DeepCutAuto
namespace Go.Proofs.YtfblpbihpmhgjaaDoor
open Go.RowKit

attribute [local go_sem] Oper.semAt_some

/-- From w to w' only blocks from lo on, below hi, were written; every block kept its kind; in block b only even cells were written. -/
structure MarkK (lo hi b : Nat) (w w' : World) : Prop where
  os : w'.os = w.os
  tape : w'.tape = w.tape
  output : w'.output = w.output
  size : w.heap.size ≤ w'.heap.size
  far : ∀ q, q < w.heap.size → (q < lo ∨ hi ≤ q) → w'.heap[q]? = w.heap[q]?
  blk : ∀ g t sz, BlockOf w g t sz → BlockOf w' g t sz
  odd : ∀ j, b < w.heap.size → w'.cell? ⟨b, j * 2 + 1, none⟩ = w.cell? ⟨b, j * 2 + 1, none⟩
theorem MarkK.refl (lo hi b : Nat) (w : World) : MarkK lo hi b w w := ⟨rfl, rfl, rfl, Nat.le_refl _, fun _ _ _ => rfl, fun _ _ _ h => h, fun _ _ => rfl⟩
theorem MarkK.trans {lo hi b : Nat} {w w' w'' : World} (h : MarkK lo hi b w w') (k : MarkK lo hi b w' w'') : MarkK lo hi b w w'' :=
  ⟨k.os.trans h.os, k.tape.trans h.tape, k.output.trans h.output, Nat.le_trans h.size k.size, fun q hq ho => (k.far q (Nat.lt_of_lt_of_le hq h.size) ho).trans (h.far q hq ho), fun g t sz hg => k.blk g t sz (h.blk g t sz hg), fun j hb => (k.odd j (Nat.lt_of_lt_of_le hb h.size)).trans (h.odd j hb)⟩
theorem MarkK.of_below {lo hi b : Nat} {w w' : World} (h : Below w.heap.size w w') : MarkK lo hi b w w' :=
  ⟨h.os, h.tape, h.output, h.size, fun q hq _ => h.block q hq, fun _ _ _ hg => hg.below h, fun _ hb => World.cell?_of_block (h.block b hb)⟩
theorem MarkK.set {lo hi b g o : Nat} (w : World) (v : Value) (h1 : lo ≤ g) (h2 : g < hi) (hb : g ≠ b) : MarkK lo hi b w (w.setCell ⟨g, o, none⟩ v) :=
  ⟨rfl, rfl, rfl, by simp [World.setCell], fun q _ hq => Below.heap_setCell _ _ _ _ (fun e => by have e' : q = g := e; omega), fun _ _ _ hg => hg.setCell v, fun _ _ => World.cell?_setCell_other _ _ _ _ (fun e => hb (by cases e; rfl))⟩
theorem MarkK.setEven {lo hi b j : Nat} (w : World) (v : Value) (h1 : lo ≤ b) (h2 : b < hi) : MarkK lo hi b w (w.setCell ⟨b, j * 2, none⟩ v) :=
  ⟨rfl, rfl, rfl, by simp [World.setCell], fun q _ hq => Below.heap_setCell _ _ _ _ (fun e => by have e' : q = b := e; omega), fun _ _ _ hg => hg.setCell v, fun i _ => World.cell?_setCell_other _ _ _ _ (fun e => by simp only [Addr.mk.injEq, true_and, and_true] at e; omega)⟩
theorem MarkK.below {lo hi b B : Nat} {w w' : World} (h : MarkK lo hi b w w') (hB : B ≤ lo) (hw : B ≤ w.heap.size) : Below B w w' :=
  ⟨h.os, h.tape, h.output, h.size, fun q hq => h.far q (by omega) (Or.inl (by omega))⟩

set_option maxRecDepth 100000 in
set_option maxHeartbeats 2000000 in
theorem markLegs_any (lo hi b g m c k : Nat) (w : World) (hB : BlockOf w g 69 (c * 3)) (hmc : m ≤ c) (hcm : c ≤ maxLen) (h1 : lo ≤ g) (h2 : g < hi) (hgb : g ≠ b) (hk : 1 ≤ k) (hn : k + 3 * m ≤ 1000000000) :
    Calls Tryd.prog 56 #[.slice (some ⟨g, 0, none⟩) m c, .int .i64 k] w fun e w' => e = .returned (.int .i64 ((k + 3 * m : Nat) : Int)) ∧ MarkK lo hi b w w' := by
  unfold maxLen at hcm
  have HB0 : Hid (BlockOf w g 69 (c * 3)) := hB
  clear hB
  go_enter Tryd.func56, Tryd.ntmps56
  go_wp2
  go_loopw [1, 5] (fun kv iv wr => ∃ (j : Nat), j ≤ m ∧ iv = .int .i64 j ∧ kv = .int .i64 ((k + 3 * j : Nat) : Int) ∧ MarkK lo hi b w wr) (fun _ iv _ => m - (intOf iv).toNat)
  case atStart => exact ⟨0, Nat.zero_le _, rfl, rfl, MarkK.refl _ _ _ _⟩
  case round =>
    obtain ⟨j, hj, rfl, rfl, hM⟩ := hrel
    have HM : Hid (MarkK lo hi b w wr) := hM
    clear hM
    obtain ⟨K, hK⟩ : ∃ K, K = k + 3 * j := ⟨_, rfl⟩
    have HK : Hid (K = k + 3 * j) := hK
    rw [← hK]
    by_cases hlt : j < m
    · have hK1 : 1 ≤ K := by omega
      have hK2 : K + 3 ≤ 1000000000 := by omega
      have hltI : (j : Int) < (m : Int) := by omega
      clear hK
      go_wp2_with fail
      refine (markText_any K _ hK1 (by omega)).mono ?_
      rintro e w1 ⟨rfl, hb1⟩
      have HM1 : Hid (MarkK lo hi b w w1) := HM.out.trans (MarkK.of_below hb1)
      have hbk := HM1.out.blk _ _ _ HB0.out
      obtain ⟨v0, c0⟩ := hbk.cell (o := j * 3) (by omega)
      obtain ⟨v1, c1⟩ := hbk.cell (o := j * 3 + 1) (by omega)
      obtain ⟨v2, c2⟩ := hbk.cell (o := j * 3 + 2) (by omega)
      have f0 := hbk.frozen (j * 3)
      have f1 := hbk.frozen (j * 3 + 1)
      have f2 := hbk.frozen (j * 3 + 2)
      have hg1 := hbk.lt
      clear hb1 hbk
      go_wp2
      go_roundw
      case rel =>
        refine ⟨j + 1, by omega, by go_num, by have := HK.out; go_num, ?_⟩
        exact ((HM1.out.trans (MarkK.set _ _ h1 h2 hgb)).trans (MarkK.set _ _ h1 h2 hgb)).trans (MarkK.set _ _ h1 h2 hgb)
      case measure => simp [intOf]; omega
    · have hltI : ¬ (j : Int) < (m : Int) := by omega
      have hjm : j = m := by omega
      go_wp2
      go_ret
      exact ⟨by first | rfl | simp | (rw [hK, hjm]), HM.out⟩

/-- How many legs and postings are marked. -/
def marksTo (w : World) (b : Nat) : Nat → Nat
  | 0 => 0
  | j + 1 => marksTo w b j + 1 + 3 * (match w.cell? ⟨b, j * 2 + 1, none⟩ with | some (.slice _ m _) => m | _ => 0)
theorem marksTo_mono (w : World) (b i d : Nat) : marksTo w b i ≤ marksTo w b (i + d) := by
  induction d with
  | zero => exact Nat.le_refl _
  | succ d ih => exact Nat.le_trans ih (by show _ ≤ marksTo w b (i + d) + 1 + _; omega)

set_option maxRecDepth 100000 in
set_option maxHeartbeats 2000000 in
theorem markPosts_any (lo hi b n cap k : Nat) (w : World) (hB : BlockOf w b 29 (cap * 2)) (hnc : n ≤ cap) (hcm : cap ≤ maxLen) (h1 : lo ≤ b) (h2 : b < hi) (hL : ∀ j, j < n → LegOwn lo hi b w j) (hk : 1 ≤ k) (hn : k + marksTo w b n ≤ 1000000000) :
    Calls Tryd.prog 43 #[.slice (some ⟨b, 0, none⟩) n cap, .int .i64 k] w fun e w' => e = .returned (.int .i64 ((k + marksTo w b n : Nat) : Int)) ∧ MarkK lo hi b w w' := by
  unfold maxLen at hcm
  have HB0 : Hid (BlockOf w b 29 (cap * 2)) := hB
  have HL : Hid (∀ j, j < n → LegOwn lo hi b w j) := hL
  clear hB hL
  go_enter Tryd.func43, Tryd.ntmps43
  go_wp2
  go_loopw [1, 5] (fun kv iv wr => ∃ (j : Nat), j ≤ n ∧ iv = .int .i64 j ∧ kv = .int .i64 ((k + marksTo w b j : Nat) : Int) ∧ MarkK lo hi b w wr) (fun _ iv _ => n - (intOf iv).toNat)
  case atStart => exact ⟨0, Nat.zero_le _, rfl, rfl, MarkK.refl _ _ _ _⟩
  case round =>
    obtain ⟨j, hj, rfl, rfl, hM⟩ := hrel
    have HM : Hid (MarkK lo hi b w wr) := hM
    have hbk := hM.blk _ _ _ HB0.out
    obtain ⟨K, hK⟩ : ∃ K, K = k + marksTo w b j := ⟨_, rfl⟩
    have HK : Hid (K = k + marksTo w b j) := hK
    rw [← hK]
    by_cases hlt : j < n
    · have hmo : marksTo w b (j + 1) ≤ marksTo w b n := by
        have := marksTo_mono w b (j + 1) (n - (j + 1))
        rw [show j + 1 + (n - (j + 1)) = n by omega] at this
        exact this
      obtain ⟨g, m, c, hc, hg1, hg2, hgb, hgk, hmc, hcl⟩ := HL.out j hlt
      have hnx : marksTo w b (j + 1) = marksTo w b j + 1 + 3 * m := by show marksTo w b j + 1 + 3 * _ = _; rw [hc]
      have hodd := (hM.odd j HB0.out.lt).trans hc
      obtain ⟨v0, c0⟩ := hbk.cell (o := j * 2) (by omega)
      have f0 := hbk.frozen (j * 2)
      have hbw := hbk.lt
      have hK1 : 1 ≤ K := by omega
      have hK2 : K + 1 + 3 * m ≤ 1000000000 := by omega
      have hltI : (j : Int) < (n : Int) := by omega
      have HNX : Hid (marksTo w b (j + 1) = marksTo w b j + 1 + 3 * m) := hnx
      have HGK : Hid (BlockOf w g 69 (c * 3)) := hgk
      have HCL : Hid (c ≤ maxLen) := hcl
      have hcast : (K : Int) + 1 = ((K + 1 : Nat) : Int) := by omega
      obtain ⟨W1, hW1⟩ : ∃ W1, W1 = wr.setCell ⟨b, j * 2, none⟩ (.int .i64 (K : Int)) := ⟨_, rfl⟩
      have HM1 : Hid (MarkK lo hi b w W1) := by rw [hW1]; exact HM.out.trans (MarkK.setEven _ _ h1 h2)
      have hodd1 : W1.cell? ⟨b, j * 2 + 1, none⟩ = some (.slice (some ⟨g, 0, none⟩) m c) := (HM1.out.odd j HB0.out.lt).trans hc
      have CM : Hid (Calls Tryd.prog 56 #[.slice (some ⟨g, 0, none⟩) m c, .int .i64 ((K : Int) + 1)] W1 fun e w' => e = .returned (.int .i64 ((K + 1 + 3 * m : Nat) : Int)) ∧ MarkK lo hi b W1 w') := by
        show Calls _ _ _ _ _
        rw [hcast]
        exact markLegs_any lo hi b g m c (K + 1) W1 (HM1.out.blk _ _ _ HGK.out) hmc HCL.out hg1 hg2 hgb (by omega) (by omega)
      clear hK hM hbk hnx hmo hgk hcl hcast hodd
      go_upto_region 6 with fail
      rw [← hW1]
      have hbw1 : b < W1.heap.size := World.block_lt_of_cell? _ _ hodd1
      clear hW1 c0 f0
      go_wp2_with fail
      refine (CM.out).mono ?_
      rintro e w2 ⟨rfl, hM2⟩
      have HM2 : Hid (MarkK lo hi b w w2) := HM1.out.trans hM2
      clear hM2 hodd1
      go_wp2
      go_roundw
      case rel => exact ⟨j + 1, by omega, by go_num, by have := HK.out; have := HNX.out; go_num, HM2.out⟩
      case measure => simp [intOf]; omega
    · have hltI : ¬ (j : Int) < (n : Int) := by omega
      have hjn : j = n := by omega
      clear hM hbk
      go_wp2
      go_ret
      exact ⟨by first | rfl | simp | (rw [hK, hjn]), HM.out⟩
end Go.Proofs.YtfblpbihpmhgjaaDoor
