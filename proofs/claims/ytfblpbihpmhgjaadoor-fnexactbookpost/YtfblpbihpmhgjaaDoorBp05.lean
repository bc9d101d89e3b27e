/-
  The reader from which the laws draw: how it lies in memory.
  The reader from which the laws draw: what it picks, by a walk of its Go text.
-/
import Derived.Test.YtfblpbihpmhgjaaDoorProg
import Derived.Test.YtfblpbihpmhgjaaDoorBp00
import Derived.WalkKit
import Derived.WalkSpells
import Derived.WalkLawsBesides
import Derived.Deep.QuietTactic
import Derived.BigQuiet
namespace Go.Proofs.YtfblpbihpmhgjaaDoor
open Go.RowKit

/-- The reader at block R: the bytes that it reads lie elsewhere; P bytes have been asked for. -/
structure RdAt (w : World) (R : Nat) (a : Option Addr) (len cap P : Nat) : Prop where
  c0 : w.cell? ⟨R, 0, none⟩ = some (.slice a len cap)
  c1 : w.cell? ⟨R, 1, none⟩ = some (.int .i64 P)
  f1 : w.frozen? ⟨R, 1, none⟩ = false
  few : len ≤ 2000
  bytes : len = 0 ∨ ∃ b off, a = some ⟨b, off, none⟩ ∧ b ≠ R ∧ b < w.heap.size ∧ ∀ i, i < len → ∃ z : Nat, z ≤ 255 ∧ w.cell? ⟨b, off + i, none⟩ = some (.int .u8 z)

theorem RdAt.lt {w : World} {R : Nat} {a : Option Addr} {len cap P : Nat} (h : RdAt w R a len cap P) : R < w.heap.size := World.block_lt_of_cell? w _ h.c0

theorem grown_trans {a b c : World} {R : Option Nat} (h : a.grownBy b R) (k : b.grownBy c R) : a.grownBy c R :=
  ⟨k.os.trans h.os, k.tape.trans h.tape, k.output.trans h.output, Nat.le_trans h.size k.size, fun i hi hn => (k.block i (Nat.lt_of_lt_of_le hi h.size) hn).trans (h.block i hi hn)⟩
theorem grown_cell {w w' : World} {R : Nat} (hg : w.grownBy w' (some R)) {x : Addr} (hx : x.block < w.heap.size) (hn : x.block ≠ R) : w'.cell? x = w.cell? x :=
  World.cell?_of_block (hg.block x.block hx (fun e => hn (by cases e; rfl)))

/-- Behind a step that leaves the reader alone. -/
theorem RdAt.below {w w' : World} {R : Nat} {a : Option Addr} {len cap P : Nat} (h : RdAt w R a len cap P) (hb : Below w.heap.size w w') : RdAt w' R a len cap P where
  c0 := cell_later hb h.c0
  c1 := cell_later hb h.c1
  f1 := (hb.frozen (p := ⟨R, 1, none⟩) h.lt).trans h.f1
  few := h.few
  bytes := by
    rcases h.bytes with h0 | ⟨b, off, ha, hb1, hb2, hc⟩
    · exact Or.inl h0
    · exact Or.inr ⟨b, off, ha, hb1, Nat.lt_of_lt_of_le hb2 hb.size, fun i hi => by obtain ⟨z, hz, hcc⟩ := hc i hi; exact ⟨z, hz, cell_later hb hcc⟩⟩

/-- Behind the counter's store. -/
theorem RdAt.next {w : World} {R : Nat} {a : Option Addr} {len cap P : Nat} (h : RdAt w R a len cap P) : RdAt (w.setCell ⟨R, 1, none⟩ (.int .i64 ((P : Int) + 1))) R a len cap (P + 1) := by
  refine ⟨?_, ?_, ?_, h.few, ?_⟩
  · rw [World.cell?_setCell_other _ _ _ _ (by simp)]; exact h.c0
  · exact World.cell?_setCell_same' _ _ _ (by rw [h.c1]; rfl)
  · rw [World.frozen?_setCell]; exact h.f1
  · rcases h.bytes with h0 | ⟨b, off, ha, hb1, hb2, hc⟩
    · exact Or.inl h0
    · refine Or.inr ⟨b, off, ha, hb1, by simpa [World.setCell] using hb2, fun i hi => ?_⟩
      obtain ⟨z, hz, hcc⟩ := hc i hi
      exact ⟨z, hz, by rw [World.cell?_setCell_other _ _ _ _ (fun e => hb1 (congrArg Addr.block e).symm)]; exact hcc⟩

theorem grown_next (w : World) (R : Nat) (v : Value) : w.grownBy (w.setCell ⟨R, 1, none⟩ v) (some R) :=
  ⟨rfl, rfl, rfl, by simp [World.setCell], fun k _ hk => Below.heap_setCell _ _ _ _ (fun e => hk (by rw [e]))⟩
theorem grown_below {w w' : World} {R : Option Nat} (h : Below w.heap.size w w') : w.grownBy w' R := ⟨h.os, h.tape, h.output, h.size, fun k hk _ => h.block k hk⟩

/-- What is picked of n. -/
def PickR (n q : Int) : Prop := 0 ≤ q ∧ (1 ≤ n → q < n)

theorem xor_i64 (a b : Nat) (ha : a < 4611686018427387904) (hb : b < 4611686018427387904) : bits .xor .i64 (a : Int) (b : Int) = ((a ^^^ b : Nat) : Int) := by
  have hx : a ^^^ b < 2 ^ 62 := Nat.xor_lt_two_pow (by omega) (by omega)
  have h1 : (BitVec.ofInt 64 (a : Int)).toNat = a := by
    rw [BitVec.ofInt_natCast, BitVec.toNat_ofNat]; exact Nat.mod_eq_of_lt (by omega)
  have h2 : (BitVec.ofInt 64 (b : Int)).toNat = b := by
    rw [BitVec.ofInt_natCast, BitVec.toNat_ofNat]; exact Nat.mod_eq_of_lt (by omega)
  show IntKind.i64.wrap ((BitVec.ofInt 64 (a : Int) ^^^ BitVec.ofInt 64 (b : Int)).toNat : Int) = _
  rw [BitVec.toNat_xor, h1, h2, IntKind.wrap_i64]
  omega

theorem wrap_small (n : Int) (h0 : 0 ≤ n) (h1 : n ≤ 9223372036854775807) : wrap64 n = n := by
  unfold wrap64
  omega

theorem pick_far (z y P len : Nat) (n : Int) (hz : z ≤ 255) (hy : y ≤ 255) (hP : P < 100000) (hn : 1 ≤ n) :
    PickR n ((bits BinOp.xor IntKind.i64 (wrap64 (↑z * 131 + ↑y * 1117 + ↑P * 29 + wrap64 (wrap64 (↑P / ↑len) * 53))) (wrap64 ((wrap64 (↑z * 131 + ↑y * 1117 + ↑P * 29 + wrap64 (wrap64 (↑P / ↑len) * 53))).tdiv 64))).tmod n) := by
  have hq : ((P : Int) / (len : Int)) = ((P / len : Nat) : Int) := (Int.natCast_ediv P len).symm
  have hle : P / len ≤ P := Nat.div_le_self _ _
  rw [hq]
  generalize P / len = Q at hle
  rw [wrap_small (Q : Int) (by omega) (by omega), wrap_small ((Q : Int) * 53) (by omega) (by omega), wrap_small _ (by omega) (by omega)]
  have e : (↑z * 131 + ↑y * 1117 + ↑P * 29 + ↑Q * 53 : Int) = ((z * 131 + y * 1117 + P * 29 + Q * 53 : Nat) : Int) := by omega
  rw [e]
  have hX : z * 131 + y * 1117 + P * 29 + Q * 53 < 100000000 := by omega
  generalize z * 131 + y * 1117 + P * 29 + Q * 53 = X at hX
  have e2 : ((X : Int).tdiv 64) = ((X / 64 : Nat) : Int) := by
    rw [Int.tdiv_eq_ediv_of_nonneg (by omega)]; omega
  rw [e2, wrap_small _ (by omega) (by omega), xor_i64 _ _ (by omega) (by omega)]
  generalize X ^^^ X / 64 = Y
  rw [Int.tmod_eq_emod_of_nonneg (by omega)]
  exact ⟨Int.emod_nonneg _ (by omega), fun _ => Int.emod_lt_of_pos _ (by omega)⟩

end Go.Proofs.YtfblpbihpmhgjaaDoor

namespace Go.Proofs.YtfblpbihpmhgjaaDoor
open Go.RowKit

set_option maxHeartbeats 2000000 in
theorem pick_any (R P : Nat) (a : Option Addr) (len cap : Nat) (n : Int) (w : World) (h : RdAt w R a len cap P) (hP : P < 100000) (hn : n ≤ 1000000) :
    Calls Tryd.prog 78 #[.pointer (some ⟨R, 0, none⟩), .int .i64 n] w fun e w' => ∃ q : Int, e = .returned (.int .i64 q) ∧ PickR n q ∧ RdAt w' R a len cap (P + 1) ∧ w.grownBy w' (some R) := by
  have c0 := h.c0
  have c1 := h.c1
  have f1 := h.f1
  have few := h.few
  have H : Hid (RdAt w R a len cap P) := h
  clear h
  by_cases h1 : n < 1
  · go_enter Tryd.func78, Tryd.ntmps78
    go_wp2
    go_ret
    exact ⟨0, rfl, ⟨by omega, fun h => by omega⟩, H.out.next, grown_next w R _⟩
  by_cases h2 : len = 0
  · subst h2
    go_enter Tryd.func78, Tryd.ntmps78
    go_wp2
    go_ret
    exact ⟨0, rfl, ⟨by omega, fun h => by omega⟩, H.out.next, grown_next w R _⟩
  obtain ⟨b, off, rfl, hbR, hbw, hbytes⟩ : ∃ b off, a = some ⟨b, off, none⟩ ∧ b ≠ R ∧ b < w.heap.size ∧ ∀ i, i < len → ∃ z : Nat, z ≤ 255 ∧ w.cell? ⟨b, off + i, none⟩ = some (.int .u8 z) := by
    rcases H.out.bytes with h0 | h0
    · exact absurd h0 h2
    · exact h0
  have HB : Hid (∀ i, i < len → ∃ z : Nat, z ≤ 255 ∧ w.cell? ⟨b, off + i, none⟩ = some (.int .u8 z)) := hbytes
  clear hbytes
  have hl0 : ((len : Int) == 0) = false := by simpa using h2
  by_cases h3 : P < len
  · obtain ⟨z, hz, hcz⟩ := HB.out P h3
    have hcz' : (w.setCell ⟨R, 1, none⟩ (.int .i64 ((P : Int) + 1))).cell? ⟨b, off + P, none⟩ = some (.int .u8 z) := by rw [World.cell?_setCell_other _ _ _ _ (fun e => hbR (congrArg Addr.block e).symm)]; exact hcz
    go_enter Tryd.func78, Tryd.ntmps78
    go_wp2
    go_ret
    exact ⟨_, rfl, ⟨Int.emod_nonneg _ (by omega), fun _ => Int.emod_lt_of_pos _ (by omega)⟩, H.out.next, grown_next w R _⟩
  · have hm1 : P % len < len := Nat.mod_lt _ (by omega)
    have hm2 : (P * 7 + 3) % len < len := Nat.mod_lt _ (by omega)
    obtain ⟨z, hz, hcz⟩ := HB.out (P % len) hm1
    obtain ⟨y, hy, hcy⟩ := HB.out ((P * 7 + 3) % len) hm2
    have hcz' : (w.setCell ⟨R, 1, none⟩ (.int .i64 ((P : Int) + 1))).cell? ⟨b, off + P % len, none⟩ = some (.int .u8 z) := by rw [World.cell?_setCell_other _ _ _ _ (fun e => hbR (congrArg Addr.block e).symm)]; exact hcz
    have hcy' : (w.setCell ⟨R, 1, none⟩ (.int .i64 ((P : Int) + 1))).cell? ⟨b, off + (P * 7 + 3) % len, none⟩ = some (.int .u8 y) := by rw [World.cell?_setCell_other _ _ _ _ (fun e => hbR (congrArg Addr.block e).symm)]; exact hcy
    have hlp : (0 : Int) < (len : Int) := by omega
    have hi0 : (0 : Int) ≤ (P : Int) % (len : Int) := Int.emod_nonneg _ (by omega)
    have hi1 : (P : Int) % (len : Int) < (len : Int) := Int.emod_lt_of_pos _ hlp
    have hj0 : (0 : Int) ≤ ((P : Int) * 7 + 3) % (len : Int) := Int.emod_nonneg _ (by omega)
    have hj1 : ((P : Int) * 7 + 3) % (len : Int) < (len : Int) := Int.emod_lt_of_pos _ hlp
    go_enter Tryd.func78, Tryd.ntmps78
    go_wp2_with fail
    go_quiet (fail)
    go_wp2
    go_ret
    exact ⟨_, rfl, pick_far z y P len n hz hy hP (by omega), RdAt.below H.out.next (below_drewN (Below.refl _ _) _), grown_trans (grown_next w R _) (grown_below (below_drewN (Below.refl _ _) _))⟩

end Go.Proofs.YtfblpbihpmhgjaaDoor
