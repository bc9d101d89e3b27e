/-
  The reader from which the laws draw: how it lies in memory.
  A box of five cells, and what it keeps; no statement of the program stands here.
  A box of three cells, and what it keeps; no statement of the program stands here.
  The laws' marks on a list of entries: written, and found again, by walks of their Go text.
  The laws' marks on a list of entries, found again, by a walk of their Go text.
-/
import Derived.Test.YtlmgojlffgkciaaGreatProg
import Derived.Test.YtlmgojlffgkciaaGreatFb00
import Derived.WalkKit
import Derived.WalkSpells
import Derived.WalkLawsBesides
import Derived.Deep.QuietTactic
import Derived.BigQuiet
import Derived.Test.YtlmgojlffgkciaaGreatFb01
import Derived.Test.YtlmgojlffgkciaaGreatFb02
namespace Go.Proofs.YtlmgojlffgkciaaGreat
open Go.RowKit

/-- The reader at block R: the bytes that it reads lie elsewhere; P bytes have been asked for. -/
structure RdAt (w : World) (R : Nat) (a : Option Addr) (len cap P : Nat) : Prop where
  c0 : w.cell? ⟨R, 0, none⟩ = some (.slice a len cap)
  c1 : w.cell? ⟨R, 1, none⟩ = some (.int .i64 P)
  f1 : w.frozen? ⟨R, 1, none⟩ = false
  few : len ≤ 2000
  bytes : len = 0 ∨ ∃ b off, a = some ⟨b, off, none⟩ ∧ b ≠ R ∧ b < w.heap.size ∧ ∀ i, i < len → ∃ z : Nat, z ≤ 255 ∧ w.cell? ⟨b, off + i, none⟩ = some (.int .u8 z)

theorem RdAt.lt {w : World} {R : Nat} {a : Option Addr} {len cap P : Nat} (h : RdAt w R a len cap P) : R < w.heap.size := World.block_lt_of_cell? w _ h.c0

theorem grown_trans {a b c : World} {R : Option Nat} (h : a.grownBy b R) (k : b.grownBy c R) : a.grownBy c R :=
  ⟨k.os.trans h.os, k.tape.trans h.tape, k.output.trans h.output, Nat.le_trans h.size k.size, fun i hi hn => (k.block i (Nat.lt_of_lt_of_le hi h.size) hn).trans (h.block i hi hn)⟩
theorem grown_cell {w w' : World} {R : Nat} (hg : w.grownBy w' (some R)) {x : Addr} (hx : x.block < w.heap.size) (hn : x.block ≠ R) : w'.cell? x = w.cell? x :=
  World.cell?_of_block (hg.block x.block hx (fun e => hn (by cases e; rfl)))

/-- Behind a step that leaves the reader alone. -/
theorem RdAt.below {w w' : World} {R : Nat} {a : Option Addr} {len cap P : Nat} (h : RdAt w R a len cap P) (hb : Below w.heap.size w w') : RdAt w' R a len cap P where
  c0 := cell_later hb h.c0
  c1 := cell_later hb h.c1
  f1 := (hb.frozen (p := ⟨R, 1, none⟩) h.lt).trans h.f1
  few := h.few
  bytes := by
    rcases h.bytes with h0 | ⟨b, off, ha, hb1, hb2, hc⟩
    · exact Or.inl h0
    · exact Or.inr ⟨b, off, ha, hb1, Nat.lt_of_lt_of_le hb2 hb.size, fun i hi => by obtain ⟨z, hz, hcc⟩ := hc i hi; exact ⟨z, hz, cell_later hb hcc⟩⟩

/-- Behind the counter's store. -/
theorem RdAt.next {w : World} {R : Nat} {a : Option Addr} {len cap P : Nat} (h : RdAt w R a len cap P) : RdAt (w.setCell ⟨R, 1, none⟩ (.int .i64 ((P : Int) + 1))) R a len cap (P + 1) := by
  refine ⟨?_, ?_, ?_, h.few, ?_⟩
  · rw [World.cell?_setCell_other _ _ _ _ (by simp)]; exact h.c0
  · exact World.cell?_setCell_same' _ _ _ (by rw [h.c1]; rfl)
  · rw [World.frozen?_setCell]; exact h.f1
  · rcases h.bytes with h0 | ⟨b, off, ha, hb1, hb2, hc⟩
    · exact Or.inl h0
    · refine Or.inr ⟨b, off, ha, hb1, by simpa [World.setCell] using hb2, fun i hi => ?_⟩
      obtain ⟨z, hz, hcc⟩ := hc i hi
      exact ⟨z, hz, by rw [World.cell?_setCell_other _ _ _ _ (fun e => hb1 (congrArg Addr.block e).symm)]; exact hcc⟩

theorem grown_next (w : World) (R : Nat) (v : Value) : w.grownBy (w.setCell ⟨R, 1, none⟩ v) (some R) :=
  ⟨rfl, rfl, rfl, by simp [World.setCell], fun k _ hk => Below.heap_setCell _ _ _ _ (fun e => hk (by rw [e]))⟩
theorem grown_below {w w' : World} {R : Option Nat} (h : Below w.heap.size w w') : w.grownBy w' R := ⟨h.os, h.tape, h.output, h.size, fun k hk _ => h.block k hk⟩

/-- What is picked of n. -/
def PickR (n q : Int) : Prop := 0 ≤ q ∧ (1 ≤ n → q < n)

theorem xor_i64 (a b : Nat) (ha : a < 4611686018427387904) (hb : b < 4611686018427387904) : bits .xor .i64 (a : Int) (b : Int) = ((a ^^^ b : Nat) : Int) := by
  have hx : a ^^^ b < 2 ^ 62 := Nat.xor_lt_two_pow (by omega) (by omega)
  have h1 : (BitVec.ofInt 64 (a : Int)).toNat = a := by
    rw [BitVec.ofInt_natCast, BitVec.toNat_ofNat]; exact Nat.mod_eq_of_lt (by omega)
  have h2 : (BitVec.ofInt 64 (b : Int)).toNat = b := by
    rw [BitVec.ofInt_natCast, BitVec.toNat_ofNat]; exact Nat.mod_eq_of_lt (by omega)
  show IntKind.i64.wrap ((BitVec.ofInt 64 (a : Int) ^^^ BitVec.ofInt 64 (b : Int)).toNat : Int) = _
  rw [BitVec.toNat_xor, h1, h2, IntKind.wrap_i64]
  omega

theorem wrap_small (n : Int) (h0 : 0 ≤ n) (h1 : n ≤ 9223372036854775807) : wrap64 n = n := by
  unfold wrap64
  omega

theorem pick_far (z y P len : Nat) (n : Int) (hz : z ≤ 255) (hy : y ≤ 255) (hP : P < 100000) (hn : 1 ≤ n) :
    PickR n ((bits BinOp.xor IntKind.i64 (wrap64 (↑z * 131 + ↑y * 1117 + ↑P * 29 + wrap64 (wrap64 (↑P / ↑len) * 53))) (wrap64 ((wrap64 (↑z * 131 + ↑y * 1117 + ↑P * 29 + wrap64 (wrap64 (↑P / ↑len) * 53))).tdiv 64))).tmod n) := by
  have hq : ((P : Int) / (len : Int)) = ((P / len : Nat) : Int) := (Int.natCast_ediv P len).symm
  have hle : P / len ≤ P := Nat.div_le_self _ _
  rw [hq]
  generalize P / len = Q at hle
  rw [wrap_small (Q : Int) (by omega) (by omega), wrap_small ((Q : Int) * 53) (by omega) (by omega), wrap_small _ (by omega) (by omega)]
  have e : (↑z * 131 + ↑y * 1117 + ↑P * 29 + ↑Q * 53 : Int) = ((z * 131 + y * 1117 + P * 29 + Q * 53 : Nat) : Int) := by omega
  rw [e]
  have hX : z * 131 + y * 1117 + P * 29 + Q * 53 < 100000000 := by omega
  generalize z * 131 + y * 1117 + P * 29 + Q * 53 = X at hX
  have e2 : ((X : Int).tdiv 64) = ((X / 64 : Nat) : Int) := by
    rw [Int.tdiv_eq_ediv_of_nonneg (by omega)]; omega
  rw [e2, wrap_small _ (by omega) (by omega), xor_i64 _ _ (by omega) (by omega)]
  generalize X ^^^ X / 64 = Y
  rw [Int.tmod_eq_emod_of_nonneg (by omega)]
  exact ⟨Int.emod_nonneg _ (by omega), fun _ => Int.emod_lt_of_pos _ (by omega)⟩

end Go.Proofs.YtlmgojlffgkciaaGreat

namespace Go.Proofs.YtlmgojlffgkciaaGreat
open Go.RowKit

/-- Five cells in block X. -/
structure Box5 (w : World) (X : Nat) (v0 v1 v2 v3 v4 : Value) : Prop where
  c0 : w.cell? ⟨X, 0, none⟩ = some v0
  c1 : w.cell? ⟨X, 1, none⟩ = some v1
  c2 : w.cell? ⟨X, 2, none⟩ = some v2
  c3 : w.cell? ⟨X, 3, none⟩ = some v3
  c4 : w.cell? ⟨X, 4, none⟩ = some v4
  fr : ∀ o, w.frozen? ⟨X, o, none⟩ = false
theorem Box5.lt {w : World} {X : Nat} {v0 v1 v2 v3 v4 : Value} (h : Box5 w X v0 v1 v2 v3 v4) : X < w.heap.size := World.block_lt_of_cell? _ _ h.c0
theorem Box5.new (w : World) (T : TypeId) (v0 v1 v2 v3 v4 : Value) : Box5 (w.alloc (.cells #[v0, v1, v2, v3, v4] T)) w.heap.size v0 v1 v2 v3 v4 :=
  ⟨by simp, by simp, by simp, by simp, by simp, fun o => World.frozen?_alloc_new w _ _ o⟩
theorem Box5.newD (w : World) (T : TypeId) (v0 v1 v2 v3 v4 : Value) : Box5 (w.alloc (.cells #[v0, v1, v2, v3, v4] T)).drew w.heap.size v0 v1 v2 v3 v4 :=
  let h := Box5.new w T v0 v1 v2 v3 v4
  ⟨h.c0, h.c1, h.c2, h.c3, h.c4, h.fr⟩
theorem Box5.below {w w' : World} {X : Nat} {v0 v1 v2 v3 v4 : Value} (h : Box5 w X v0 v1 v2 v3 v4) (hb : Below w.heap.size w w') : Box5 w' X v0 v1 v2 v3 v4 :=
  ⟨cell_later hb h.c0, cell_later hb h.c1, cell_later hb h.c2, cell_later hb h.c3, cell_later hb h.c4, fun o => (hb.frozen (p := ⟨X, o, none⟩) h.lt).trans (h.fr o)⟩
theorem Box5.alloc {w : World} {X : Nat} {v0 v1 v2 v3 v4 : Value} (h : Box5 w X v0 v1 v2 v3 v4) (o : Obj) : Box5 (w.alloc o) X v0 v1 v2 v3 v4 := h.below ((Below.refl _ _).alloc (Nat.le_refl _) _)
theorem Box5.grown {w w' : World} {X R : Nat} {v0 v1 v2 v3 v4 : Value} (h : Box5 w X v0 v1 v2 v3 v4) (hg : w.grownBy w' (some R)) (hn : X ≠ R) : Box5 w' X v0 v1 v2 v3 v4 :=
  ⟨(grown_cell hg (x := ⟨X, 0, none⟩) h.lt hn).trans h.c0, (grown_cell hg (x := ⟨X, 1, none⟩) h.lt hn).trans h.c1, (grown_cell hg (x := ⟨X, 2, none⟩) h.lt hn).trans h.c2, (grown_cell hg (x := ⟨X, 3, none⟩) h.lt hn).trans h.c3, (grown_cell hg (x := ⟨X, 4, none⟩) h.lt hn).trans h.c4, fun o => (World.frozen?_of_block (hg.block X h.lt (fun e => hn (by cases e; rfl)))).trans (h.fr o)⟩
theorem Box5.other {w : World} {X Y : Nat} {v0 v1 v2 v3 v4 : Value} (h : Box5 w X v0 v1 v2 v3 v4) (hn : X ≠ Y) (o : Nat) (v : Value) : Box5 (w.setCell ⟨Y, o, none⟩ v) X v0 v1 v2 v3 v4 := by
  have ne : ∀ i, (⟨Y, o, none⟩ : Addr) ≠ ⟨X, i, none⟩ := fun i e => hn (congrArg Addr.block e).symm
  exact ⟨by rw [World.cell?_setCell_other _ _ _ _ (ne 0)]; exact h.c0, by rw [World.cell?_setCell_other _ _ _ _ (ne 1)]; exact h.c1, by rw [World.cell?_setCell_other _ _ _ _ (ne 2)]; exact h.c2, by rw [World.cell?_setCell_other _ _ _ _ (ne 3)]; exact h.c3, by rw [World.cell?_setCell_other _ _ _ _ (ne 4)]; exact h.c4, fun o' => by rw [World.frozen?_setCell]; exact h.fr o'⟩
theorem Box5.set0 {w : World} {X : Nat} {v0 v1 v2 v3 v4 : Value} (h : Box5 w X v0 v1 v2 v3 v4) (v : Value) : Box5 (w.setCell ⟨X, 0, none⟩ v) X v v1 v2 v3 v4 := by
  refine ⟨World.cell?_setCell_same' _ _ _ (by rw [h.c0]; rfl), ?_, ?_, ?_, ?_, fun o' => by rw [World.frozen?_setCell]; exact h.fr o'⟩
  · rw [World.cell?_setCell_other _ _ _ _ (by simp)]; exact h.c1
  · rw [World.cell?_setCell_other _ _ _ _ (by simp)]; exact h.c2
  · rw [World.cell?_setCell_other _ _ _ _ (by simp)]; exact h.c3
  · rw [World.cell?_setCell_other _ _ _ _ (by simp)]; exact h.c4
theorem Box5.set1 {w : World} {X : Nat} {v0 v1 v2 v3 v4 : Value} (h : Box5 w X v0 v1 v2 v3 v4) (v : Value) : Box5 (w.setCell ⟨X, 1, none⟩ v) X v0 v v2 v3 v4 := by
  refine ⟨?_, World.cell?_setCell_same' _ _ _ (by rw [h.c1]; rfl), ?_, ?_, ?_, fun o' => by rw [World.frozen?_setCell]; exact h.fr o'⟩
  · rw [World.cell?_setCell_other _ _ _ _ (by simp)]; exact h.c0
  · rw [World.cell?_setCell_other _ _ _ _ (by simp)]; exact h.c2
  · rw [World.cell?_setCell_other _ _ _ _ (by simp)]; exact h.c3
  · rw [World.cell?_setCell_other _ _ _ _ (by simp)]; exact h.c4
theorem Box5.set2 {w : World} {X : Nat} {v0 v1 v2 v3 v4 : Value} (h : Box5 w X v0 v1 v2 v3 v4) (v : Value) : Box5 (w.setCell ⟨X, 2, none⟩ v) X v0 v1 v v3 v4 := by
  refine ⟨?_, ?_, World.cell?_setCell_same' _ _ _ (by rw [h.c2]; rfl), ?_, ?_, fun o' => by rw [World.frozen?_setCell]; exact h.fr o'⟩
  · rw [World.cell?_setCell_other _ _ _ _ (by simp)]; exact h.c0
  · rw [World.cell?_setCell_other _ _ _ _ (by simp)]; exact h.c1
  · rw [World.cell?_setCell_other _ _ _ _ (by simp)]; exact h.c3
  · rw [World.cell?_setCell_other _ _ _ _ (by simp)]; exact h.c4
theorem Box5.set3 {w : World} {X : Nat} {v0 v1 v2 v3 v4 : Value} (h : Box5 w X v0 v1 v2 v3 v4) (v : Value) : Box5 (w.setCell ⟨X, 3, none⟩ v) X v0 v1 v2 v v4 := by
  refine ⟨?_, ?_, ?_, World.cell?_setCell_same' _ _ _ (by rw [h.c3]; rfl), ?_, fun o' => by rw [World.frozen?_setCell]; exact h.fr o'⟩
  · rw [World.cell?_setCell_other _ _ _ _ (by simp)]; exact h.c0
  · rw [World.cell?_setCell_other _ _ _ _ (by simp)]; exact h.c1
  · rw [World.cell?_setCell_other _ _ _ _ (by simp)]; exact h.c2
  · rw [World.cell?_setCell_other _ _ _ _ (by simp)]; exact h.c4
theorem Box5.set4 {w : World} {X : Nat} {v0 v1 v2 v3 v4 : Value} (h : Box5 w X v0 v1 v2 v3 v4) (v : Value) : Box5 (w.setCell ⟨X, 4, none⟩ v) X v0 v1 v2 v3 v := by
  refine ⟨?_, ?_, ?_, ?_, World.cell?_setCell_same' _ _ _ (by rw [h.c4]; rfl), fun o' => by rw [World.frozen?_setCell]; exact h.fr o'⟩
  · rw [World.cell?_setCell_other _ _ _ _ (by simp)]; exact h.c0
  · rw [World.cell?_setCell_other _ _ _ _ (by simp)]; exact h.c1
  · rw [World.cell?_setCell_other _ _ _ _ (by simp)]; exact h.c2
  · rw [World.cell?_setCell_other _ _ _ _ (by simp)]; exact h.c3
/-- All five. -/
theorem Box5.setAll {w : World} {X : Nat} {v0 v1 v2 v3 v4 : Value} (h : Box5 w X v0 v1 v2 v3 v4) (u0 u1 u2 u3 u4 : Value) : Box5 (((((w.setCell ⟨X, 0, none⟩ u0).setCell ⟨X, 1, none⟩ u1).setCell ⟨X, 2, none⟩ u2).setCell ⟨X, 3, none⟩ u3).setCell ⟨X, 4, none⟩ u4) X u0 u1 u2 u3 u4 :=
  ((((h.set0 u0).set1 u1).set2 u2).set3 u3).set4 u4

/-- The reader is kept where another block is written. -/
theorem RdAt.other {w : World} {R : Nat} {a : Option Addr} {len cap P : Nat} (h : RdAt w R a len cap P) {X : Nat} (hX : X ≠ R) (hB : ∀ b off, a = some ⟨b, off, none⟩ → 0 < len → b ≠ X) (o : Nat) (v : Value) : RdAt (w.setCell ⟨X, o, none⟩ v) R a len cap P := by
  have ne : ∀ i, (⟨X, o, none⟩ : Addr) ≠ ⟨R, i, none⟩ := fun i e => hX (congrArg Addr.block e)
  refine ⟨by rw [World.cell?_setCell_other _ _ _ _ (ne 0)]; exact h.c0, by rw [World.cell?_setCell_other _ _ _ _ (ne 1)]; exact h.c1, by rw [World.frozen?_setCell]; exact h.f1, h.few, ?_⟩
  rcases h.bytes with h0 | ⟨b, off, ha, hb1, hb2, hc⟩
  · exact Or.inl h0
  · by_cases h0 : len = 0
    · exact Or.inl h0
    · refine Or.inr ⟨b, off, ha, hb1, by simpa [World.setCell] using hb2, fun i hi => ?_⟩
      obtain ⟨z, hz, hcc⟩ := hc i hi
      exact ⟨z, hz, by rw [World.cell?_setCell_other _ _ _ _ (fun e => hB b off ha (by omega) (congrArg Addr.block e).symm)]; exact hcc⟩

end Go.Proofs.YtlmgojlffgkciaaGreat

namespace Go.Proofs.YtlmgojlffgkciaaGreat
open Go.RowKit

/-- Three cells in block X. -/
structure Box3 (w : World) (X : Nat) (v0 v1 v2 : Value) : Prop where
  c0 : w.cell? ⟨X, 0, none⟩ = some v0
  c1 : w.cell? ⟨X, 1, none⟩ = some v1
  c2 : w.cell? ⟨X, 2, none⟩ = some v2
  fr : ∀ o, w.frozen? ⟨X, o, none⟩ = false
theorem Box3.lt {w : World} {X : Nat} {v0 v1 v2 : Value} (h : Box3 w X v0 v1 v2) : X < w.heap.size := World.block_lt_of_cell? _ _ h.c0
theorem Box3.new (w : World) (T : TypeId) (v0 v1 v2 : Value) : Box3 (w.alloc (.cells #[v0, v1, v2] T)) w.heap.size v0 v1 v2 :=
  ⟨by simp, by simp, by simp, fun o => World.frozen?_alloc_new w _ _ o⟩
theorem Box3.below {w w' : World} {X : Nat} {v0 v1 v2 : Value} (h : Box3 w X v0 v1 v2) (hb : Below w.heap.size w w') : Box3 w' X v0 v1 v2 :=
  ⟨cell_later hb h.c0, cell_later hb h.c1, cell_later hb h.c2, fun o => (hb.frozen (p := ⟨X, o, none⟩) h.lt).trans (h.fr o)⟩
theorem Box3.alloc {w : World} {X : Nat} {v0 v1 v2 : Value} (h : Box3 w X v0 v1 v2) (o : Obj) : Box3 (w.alloc o) X v0 v1 v2 := h.below ((Below.refl _ _).alloc (Nat.le_refl _) _)
theorem Box3.grown {w w' : World} {X R : Nat} {v0 v1 v2 : Value} (h : Box3 w X v0 v1 v2) (hg : w.grownBy w' (some R)) (hn : X ≠ R) : Box3 w' X v0 v1 v2 :=
  ⟨(grown_cell hg (x := ⟨X, 0, none⟩) h.lt hn).trans h.c0, (grown_cell hg (x := ⟨X, 1, none⟩) h.lt hn).trans h.c1, (grown_cell hg (x := ⟨X, 2, none⟩) h.lt hn).trans h.c2, fun o => (World.frozen?_of_block (hg.block X h.lt (fun e => hn (by cases e; rfl)))).trans (h.fr o)⟩
theorem Box3.other {w : World} {X Y : Nat} {v0 v1 v2 : Value} (h : Box3 w X v0 v1 v2) (hn : X ≠ Y) (o : Nat) (v : Value) : Box3 (w.setCell ⟨Y, o, none⟩ v) X v0 v1 v2 := by
  have ne : ∀ i, (⟨Y, o, none⟩ : Addr) ≠ ⟨X, i, none⟩ := fun i e => hn (congrArg Addr.block e).symm
  exact ⟨by rw [World.cell?_setCell_other _ _ _ _ (ne 0)]; exact h.c0, by rw [World.cell?_setCell_other _ _ _ _ (ne 1)]; exact h.c1, by rw [World.cell?_setCell_other _ _ _ _ (ne 2)]; exact h.c2, fun o' => by rw [World.frozen?_setCell]; exact h.fr o'⟩
theorem Box3.setAll {w : World} {X : Nat} {v0 v1 v2 : Value} (h : Box3 w X v0 v1 v2) (u0 u1 u2 : Value) : Box3 (((w.setCell ⟨X, 0, none⟩ u0).setCell ⟨X, 1, none⟩ u1).setCell ⟨X, 2, none⟩ u2) X u0 u1 u2 := by
  refine ⟨?_, ?_, ?_, fun o' => by rw [World.frozen?_setCell, World.frozen?_setCell, World.frozen?_setCell]; exact h.fr o'⟩
  · rw [World.cell?_setCell_other _ _ _ _ (by simp), World.cell?_setCell_other _ _ _ _ (by simp)]
    exact World.cell?_setCell_same' _ _ _ (by rw [h.c0]; rfl)
  · rw [World.cell?_setCell_other _ _ _ _ (by simp)]
    exact World.cell?_setCell_same' _ _ _ (by rw [World.cell?_setCell_other _ _ _ _ (by simp), h.c1]; rfl)
  · exact World.cell?_setCell_same' _ _ _ (by rw [World.cell?_setCell_other _ _ _ _ (by simp), World.cell?_setCell_other _ _ _ _ (by simp), h.c2]; rfl)

end Go.Proofs.YtlmgojlffgkciaaGreat

namespace Go.Proofs.YtlmgojlffgkciaaGreat
open Go.RowKit

/-- The entry that number k marks with. -/
def markEnt (k : Nat) : EntD := (markT k, ((k + 1 : Nat) : Int), ((k + 2 : Nat) : Int), markT (k + 3), ((k + 4 : Nat) : Int))
/-- The marks of n entries, from k on. -/
def markL (k n : Nat) : List EntD := (List.range n).map (fun j => markEnt (k + 5 * j))
theorem markL_len (k n : Nat) : (markL k n).length = n := by simp [markL]
theorem markL_at {k n j : Nat} {l : EntD} (h : (markL k n)[j]? = some l) : j < n ∧ l = markEnt (k + 5 * j) := by
  have h1 := (List.getElem?_eq_some_iff.1 h).1
  rw [markL_len] at h1
  refine ⟨h1, ?_⟩
  have : (markL k n)[j]? = some (markEnt (k + 5 * j)) := by simp [markL, h1]
  rw [this] at h
  cases h
  rfl
theorem digs_len (f p : Nat) (acc : List UInt8) : (digs f p acc).length ≤ f + acc.length := by
  induction f generalizing p acc with
  | zero => simp [digs]
  | succ f ih =>
    unfold digs
    split
    · omega
    · have := ih (p / 10) (UInt8.ofNat (48 + p % 10) :: acc)
      rw [List.length_cons] at this
      omega
theorem markT_size (k : Nat) : (markT k).size ≤ 1 + k := by
  unfold markT
  rw [ByteArray.size_append]
  have := digs_len k k []
  show 1 + (digs k k []).toArray.size ≤ 1 + k
  simp at this ⊢
  exact this
theorem wf_small (x : Nat) (h : x ≤ 2000000000) : (Lit.int .i64 (x : Int)).wf = true := by
  simp only [Lit.wf, IntKind.min, IntKind.max, IntKind.signed, IntKind.bits, Bool.and_eq_true, decide_eq_true_eq, if_true]
  omega
theorem markL_wf (k n : Nat) (h : k + 5 * n ≤ 1000000000) : ∀ l ∈ markL k n, EntW l := by
  intro l hl
  obtain ⟨j, hj, rfl⟩ := List.mem_map.1 hl
  have hj' := List.mem_range.1 hj
  have s1 := markT_size (k + 5 * j)
  have s2 := markT_size (k + 5 * j + 3)
  exact ⟨by show (markT (k + 5 * j)).size ≤ maxLen; unfold maxLen; omega, wf_small _ (by omega), wf_small _ (by omega), by show (markT (k + 5 * j + 3)).size ≤ maxLen; unfold maxLen; omega, wf_small _ (by omega)⟩

set_option maxRecDepth 100000 in
set_option maxHeartbeats 2000000 in
theorem markE_any (base b n cap k : Nat) (L : List EntD) (w : World) (hO : OwnE w base b n cap L) (hk : 1 ≤ k) (hn : k + 5 * n ≤ 1000000000) :
    Calls Tryz.prog 27 #[.slice (some ⟨b, 0, none⟩) n cap, .int .i64 k] w fun e w' => e = .returned (.int .i64 ((k + 5 * n : Nat) : Int)) ∧ OwnE w' base b n cap (markL k n) ∧ w.grownBy w' (some b) := by
  have hbw := hO.lt.2
  have HO0 : Hid (w.ownsRow base 78 5 (.slice (some ⟨b, 0, none⟩) n cap) n (flatE L)) := hO.owns
  clear hO
  go_enter Tryz.func27, Tryz.ntmps27
  go_wp2
  go_loopw [1, 5] (fun kv iv wr => ∃ (j : Nat) (xs : List Value), j ≤ n ∧ iv = .int .i64 j ∧ kv = .int .i64 ((k + 5 * j : Nat) : Int) ∧ wr.ownsRow base 78 5 (.slice (some ⟨b, 0, none⟩) n cap) n xs ∧ w.grownBy wr (some b) ∧ (∀ i, i < j → RowEnt xs i (markEnt (k + 5 * i)))) (fun _ iv _ => n - (intOf iv).toNat)
  case atStart => exact ⟨0, _, Nat.zero_le _, rfl, rfl, HO0.out, ⟨rfl, rfl, rfl, Nat.le_refl _, fun _ _ _ => rfl⟩, fun i hi => absurd hi (Nat.not_lt_zero _)⟩
  case round =>
    obtain ⟨j, xs, hj, rfl, rfl, ho, hg, hrow⟩ := hrel
    have HROW : Hid (∀ i, i < j → RowEnt xs i (markEnt (k + 5 * i))) := hrow
    have HO : Hid (wr.ownsRow base 78 5 (.slice (some ⟨b, 0, none⟩) n cap) n xs) := ho
    have HG : Hid (w.grownBy wr (some b)) := hg
    have hbr := (ho.lt b rfl).2
    clear hrow ho hg
    obtain ⟨K, hK⟩ : ∃ K, K = k + 5 * j := ⟨_, rfl⟩
    rw [← hK]
    by_cases hlt : j < n
    · have hK1 : 1 ≤ K := by omega
      have hK2 : K + 5 ≤ 1000000000 := by omega
      have HK : Hid (K = k + 5 * j) := hK
      clear hK
      go_wp2_with fail
      refine (markText_any K _ hK1 (by omega)).mono ?_
      rintro e w1 ⟨rfl, hb1⟩
      have ho1 : w1.ownsRow base 78 5 (.slice (some ⟨b, 0, none⟩) n cap) n xs := HO.out.kept (row := none) ⟨hb1.os, hb1.tape, hb1.output, hb1.size, fun k hk _ => hb1.block k hk⟩ (.inr (by simp [Value.ownBlock]))
      have c0 : ∃ v, w1.cell? ⟨b, j * 5, none⟩ = some v := ⟨_, (ho1.cellAt _ (by omega)).trans (List.getElem?_eq_getElem (by rw [ho1.1]; omega))⟩
      obtain ⟨v0, c0⟩ := c0
      have f0 : w1.frozen? ⟨b, j * 5, none⟩ = false := ho1.frozenAt _
      have c1 : ∃ v, w1.cell? ⟨b, j * 5 + 1, none⟩ = some v := ⟨_, (ho1.cellAt _ (by omega)).trans (List.getElem?_eq_getElem (by rw [ho1.1]; omega))⟩
      obtain ⟨v1, c1⟩ := c1
      have f1 : w1.frozen? ⟨b, j * 5 + 1, none⟩ = false := ho1.frozenAt _
      have c2 : ∃ v, w1.cell? ⟨b, j * 5 + 2, none⟩ = some v := ⟨_, (ho1.cellAt _ (by omega)).trans (List.getElem?_eq_getElem (by rw [ho1.1]; omega))⟩
      obtain ⟨v2, c2⟩ := c2
      have f2 : w1.frozen? ⟨b, j * 5 + 2, none⟩ = false := ho1.frozenAt _
      have c3 : ∃ v, w1.cell? ⟨b, j * 5 + 3, none⟩ = some v := ⟨_, (ho1.cellAt _ (by omega)).trans (List.getElem?_eq_getElem (by rw [ho1.1]; omega))⟩
      obtain ⟨v3, c3⟩ := c3
      have f3 : w1.frozen? ⟨b, j * 5 + 3, none⟩ = false := ho1.frozenAt _
      have c4 : ∃ v, w1.cell? ⟨b, j * 5 + 4, none⟩ = some v := ⟨_, (ho1.cellAt _ (by omega)).trans (List.getElem?_eq_getElem (by rw [ho1.1]; omega))⟩
      obtain ⟨v4, c4⟩ := c4
      have f4 : w1.frozen? ⟨b, j * 5 + 4, none⟩ = false := ho1.frozenAt _
      have HO1 : Hid (w1.ownsRow base 78 5 (.slice (some ⟨b, 0, none⟩) n cap) n xs) := ho1
      have hbw1 := (ho1.lt b rfl).2
      clear ho1
      have CM : Hid (∀ w, Calls Tryz.prog 61 #[.int .i64 ((K : Int) + 1 + 1 + 1)] w fun e w' => e = .returned (.string (markT (K + 3))) ∧ Below w.heap.size w w') := by
        have e3 : (K : Int) + 1 + 1 + 1 = ((K + 3 : Nat) : Int) := by omega
        rw [e3]
        exact fun w => markText_any (K + 3) w (by omega) (by omega)
      have HME : Hid (markEnt (k + 5 * j) = (markT K, (K : Int) + 1, (K : Int) + 1 + 1, markT (K + 3), (K : Int) + 1 + 1 + 1 + 1)) := by
        show markEnt (k + 5 * j) = _
        rw [← HK.out]
        unfold markEnt
        have a1 : ((K + 1 : Nat) : Int) = (K : Int) + 1 := by omega
        have a2 : ((K + 2 : Nat) : Int) = (K : Int) + 1 + 1 := by omega
        have a4 : ((K + 4 : Nat) : Int) = (K : Int) + 1 + 1 + 1 + 1 := by omega
        rw [a1, a2, a4]
      go_wp2_with fail
      have t0 := HO1.out.stored (j * 5) (.string (markT K))
      have t1 := t0.1.stored (j * 5 + 1) (.int .i64 ((K : Int) + 1))
      have t2 := t1.1.stored (j * 5 + 2) (.int .i64 ((K : Int) + 1 + 1))
      obtain ⟨W1, hW1⟩ : ∃ W1, W1 = (((w1.setCell ⟨b, j * 5, none⟩ (.string (markT K))).setCell ⟨b, j * 5 + 1, none⟩ (.int .i64 ((K : Int) + 1))).setCell ⟨b, j * 5 + 2, none⟩ (.int .i64 ((K : Int) + 1 + 1))) := ⟨_, rfl⟩
      have ho2 : W1.ownsRow base 78 5 (.slice (some ⟨b, 0, none⟩) n cap) n ((xs.set (j * 5) (.string (markT K))).set (j * 5 + 1) (.int .i64 ((K : Int) + 1)) |>.set (j * 5 + 2) (.int .i64 ((K : Int) + 1 + 1))) := by rw [hW1]; exact t2.1
      have g1 : wr.grownBy W1 (some b) := by rw [hW1]; exact ⟨hb1.os, hb1.tape, hb1.output, by have := hb1.size; simpa [World.setCell] using this, fun q hq hne => by
        have hqb : q ≠ b := fun e => hne (by rw [e])
        rw [Below.heap_setCell _ _ _ _ hqb, Below.heap_setCell _ _ _ _ hqb, Below.heap_setCell _ _ _ _ hqb]
        exact hb1.block q hq⟩
      rw [← hW1]
      clear hW1 t0 t1 t2 c0 c1 c2 c3 c4 f0 f1 f2 f3 f4 hb1
      refine (CM.out _).mono ?_
      rintro e w2 ⟨rfl, hb2⟩
      have ho3 : w2.ownsRow base 78 5 (.slice (some ⟨b, 0, none⟩) n cap) n ((xs.set (j * 5) (.string (markT K))).set (j * 5 + 1) (.int .i64 ((K : Int) + 1)) |>.set (j * 5 + 2) (.int .i64 ((K : Int) + 1 + 1))) := ho2.kept (row := none) ⟨hb2.os, hb2.tape, hb2.output, hb2.size, fun k hk _ => hb2.block k hk⟩ (.inr (by simp [Value.ownBlock]))
      have d3 : ∃ v, w2.cell? ⟨b, j * 5 + 3, none⟩ = some v := ⟨_, (ho3.cellAt _ (by omega)).trans (List.getElem?_eq_getElem (by rw [ho3.1]; omega))⟩
      obtain ⟨y3, d3⟩ := d3
      have e3 : w2.frozen? ⟨b, j * 5 + 3, none⟩ = false := ho3.frozenAt _
      have d4 : ∃ v, w2.cell? ⟨b, j * 5 + 4, none⟩ = some v := ⟨_, (ho3.cellAt _ (by omega)).trans (List.getElem?_eq_getElem (by rw [ho3.1]; omega))⟩
      obtain ⟨y4, d4⟩ := d4
      have e4 : w2.frozen? ⟨b, j * 5 + 4, none⟩ = false := ho3.frozenAt _
      have HO3 : Hid (w2.ownsRow base 78 5 (.slice (some ⟨b, 0, none⟩) n cap) n ((xs.set (j * 5) (.string (markT K))).set (j * 5 + 1) (.int .i64 ((K : Int) + 1)) |>.set (j * 5 + 2) (.int .i64 ((K : Int) + 1 + 1)))) := ho3
      have hbw2 := (ho3.lt b rfl).2
      have hxl := HO.out.1
      have HXL : Hid (xs.length = n * 5) := hxl
      clear ho3 ho2 hxl
      go_wp2
      go_roundw
      case rel =>
        have t3 := HO3.out.stored (j * 5 + 3) (.string (markT (K + 3)))
        have t4 := t3.1.stored (j * 5 + 4) (.int .i64 ((K : Int) + 1 + 1 + 1 + 1))
        refine ⟨j + 1, _, by omega, by go_num, ?_, t4.1, ?_, ?_⟩
        · congr 1; have := HK.out; omega
        · have G := HG.out
          exact ⟨((hb2.os.trans g1.os).trans G.os), ((hb2.tape.trans g1.tape).trans G.tape), ((hb2.output.trans g1.output).trans G.output), by have := hb2.size; have := g1.size; have := G.size; simp [World.setCell]; omega, fun q hq hne => by
            have hqb : q ≠ b := fun e => hne (by rw [e])
            rw [Below.heap_setCell _ _ _ _ hqb, Below.heap_setCell _ _ _ _ hqb]
            have h1 := G.size
            have h2 := g1.size
            exact (hb2.block q (by omega)).trans ((g1.block q (by omega) hne).trans (G.block q hq hne))⟩
        · intro i hi
          by_cases hij : i = j
          · subst hij
            rw [HME.out]
            exact rowEnt_same _ _ _ _ _ (by rw [HXL.out]; omega)
          · exact rowEnt_other (HROW.out i (by omega)) hij _ _ _ _ _
      case measure => simp [intOf]; omega
    · have hjn : j = n := by omega
      subst hjn
      have HK : Hid (K = k + 5 * j) := hK
      clear hK
      go_wp2
      go_ret
      refine ⟨ret_int (by rw [HK.out]), ⟨?_, markL_len k j, markL_wf k j hn⟩, HG.out⟩
      rw [← row_flat (xs := xs) (L := markL k j) (by rw [markL_len]; exact HO.out.1) (fun i l hl => by obtain ⟨h1, rfl⟩ := markL_at hl; exact HROW.out i h1)]
      exact HO.out
end Go.Proofs.YtlmgojlffgkciaaGreat

namespace Go.Proofs.YtlmgojlffgkciaaGreat
open Go.RowKit

set_option maxRecDepth 100000 in
set_option maxHeartbeats 2000000 in
theorem heldE_any (b n cap k : Nat) (w : World) (hL : EntsAt w (some ⟨b, 0, none⟩) n cap (markL k n)) (hk : 1 ≤ k) (hn : k + 5 * n ≤ 1000000000) :
    Calls Tryz.prog 34 #[.slice (some ⟨b, 0, none⟩) n cap, .int .i64 k] w fun e w' => e = .returned (.int .i64 ((k + 5 * n : Nat) : Int)) ∧ Below w.heap.size w w' := by
  have HL : Hid (EntsAt w (some ⟨b, 0, none⟩) n cap (markL k n)) := hL
  clear hL
  go_enter Tryz.func34, Tryz.ntmps34
  go_wp2
  go_loopw [1, 5] (fun kv iv wr => ∃ (j : Nat), j ≤ n ∧ iv = .int .i64 j ∧ kv = .int .i64 ((k + 5 * j : Nat) : Int) ∧ Below w.heap.size w wr) (fun _ iv _ => n - (intOf iv).toNat)
  case atStart => exact ⟨0, Nat.zero_le _, rfl, rfl, Below.refl _ _⟩
  case round =>
    obtain ⟨j, hj, rfl, rfl, hb⟩ := hrel
    obtain ⟨K, hK⟩ : ∃ K, K = k + 5 * j := ⟨_, rfl⟩
    rw [← hK]
    by_cases hlt : j < n
    · have hK1 : 1 ≤ K := by omega
      have hK2 : K + 5 ≤ 1000000000 := by omega
      have hbb := (HL.out.lies _ rfl (by omega)).1
      simp only at hbb
      have hbr : b < wr.heap.size := Nat.lt_of_lt_of_le hbb hb.size
      have hent := (HL.out.cells _ rfl j (by rw [markL_len]; exact hlt)).moved (fun o => hb.cell (p := ⟨b, o, none⟩) hbb)
      have hme : (markL k n)[j]'(by rw [markL_len]; exact hlt) = markEnt K := by
        have := (markL_at (k := k) (n := n) (j := j) (List.getElem?_eq_getElem (by rw [markL_len]; exact hlt))).2
        rw [this, hK]
      rw [hme] at hent
      simp only [Nat.zero_add] at hent
      obtain ⟨c0, c1, c2, c3, c4⟩ := hent
      unfold markEnt at c0 c1 c2 c3 c4
      simp only at c0 c1 c2 c3 c4
      have a1 : ((K + 1 : Nat) : Int) = (K : Int) + 1 := by omega
      have a2 : ((K + 2 : Nat) : Int) = (K : Int) + 1 + 1 := by omega
      have a4 : ((K + 4 : Nat) : Int) = (K : Int) + 1 + 1 + 1 + 1 := by omega
      rw [a1] at c1
      rw [a2] at c2
      rw [a4] at c4
      clear a1 a2 a4 hme
      have HK : Hid (K = k + 5 * j) := hK
      clear hK
      have CM0 : Hid (∀ w, Calls Tryz.prog 61 #[.int .i64 (K : Int)] w fun e w' => e = .returned (.string (markT K)) ∧ Below w.heap.size w w') := fun w => markText_any K w hK1 (by omega)
      have CM : Hid (∀ w, Calls Tryz.prog 61 #[.int .i64 ((K : Int) + 1 + 1 + 1)] w fun e w' => e = .returned (.string (markT (K + 3))) ∧ Below w.heap.size w w') := by
        have e3 : (K : Int) + 1 + 1 + 1 = ((K + 3 : Nat) : Int) := by omega
        rw [e3]
        exact fun w => markText_any (K + 3) w (by omega) (by omega)
      have HMK : Hid (∀ w', Below wr.heap.size wr w' → (w'.cell? ⟨b, j * 5, none⟩ = some (.string (markT K)) ∧ w'.cell? ⟨b, j * 5 + 3, none⟩ = some (.string (markT (K + 3))) ∧ b < w'.heap.size)) := fun w' kk => ⟨cell_later kk c0, cell_later kk c3, Nat.lt_of_lt_of_le hbr kk.size⟩
      have k0 : Below wr.heap.size wr wr.drew := (Below.refl _ wr).drew
      go_wp2_with fail
      refine wp_region_held_drew (S := (fun w' => w'.cell? ⟨b, j * 5, none⟩ = some (.string (markT K)) ∧ w'.cell? ⟨b, j * 5 + 3, none⟩ = some (.string (markT (K + 3))) ∧ b < w'.heap.size)) (by kernel_rfl) (HMK.out _ k0) (fun hHeld => ?_)
      refine wpAnyH_takeL (i := 0) (v := ?_) rfl (by kernel_rfl) (by kernel_rfl) (by kernel_rfl) (fun _ _ _ h => h) (Or.inl ⟨by rfl, ?_⟩) hHeld ?_
      rotate_left
      · (intro w hSw; (try dsimp only at hSw); go_simp; try with_reducible rfl)
      try go_frame
      refine wpAnyH_takeL (i := 1) (v := ?_) rfl (by kernel_rfl) (by kernel_rfl) (by kernel_rfl) (fun _ _ _ h => h) (Or.inl ⟨by rfl, ?_⟩) hHeld ?_
      rotate_left
      · (intro w hSw; (try dsimp only at hSw); go_simp; try with_reducible rfl)
      try go_frame
      refine wpAnyH_takeL (i := 2) (v := ?_) rfl (by kernel_rfl) (by kernel_rfl) (by kernel_rfl) (fun _ _ _ h => h) (Or.inl ⟨by rfl, ?_⟩) hHeld ?_
      rotate_left
      · (intro w hSw; (try dsimp only at hSw); go_simp; try with_reducible rfl)
      try go_frame
      refine wpAnyH_takeL (i := 3) (v := ?_) rfl (by kernel_rfl) (by kernel_rfl) (by kernel_rfl) (fun _ _ _ h => h) (Or.inl ⟨by rfl, ?_⟩) hHeld ?_
      rotate_left
      · (intro w hSw; (try dsimp only at hSw); go_simp; try with_reducible rfl)
      try go_frame
      refine wpAnyH_takeL (i := 4) (v := ?_) rfl (by kernel_rfl) (by kernel_rfl) (by kernel_rfl) (fun _ _ _ h => h) (Or.inl ⟨by rfl, ?_⟩) hHeld ?_
      rotate_left
      · (intro w hSw; (try dsimp only at hSw); go_simp; try with_reducible rfl)
      try go_frame
      refine wpAnyH_takeL (i := 5) (v := ?_) rfl (by kernel_rfl) (by kernel_rfl) (by kernel_rfl) (fun _ _ _ h => h) (Or.inl ⟨by rfl, ?_⟩) hHeld ?_
      rotate_left
      · (intro w hSw; (try dsimp only at hSw); go_simp; try with_reducible rfl)
      try go_frame
      refine wpAnyH_ready (rs := [6]) (by kernel_rfl) (by simp) ?_
      refine consL rfl (fun K hK => ?_) AllReadyH.nil
      go_simp
      refine (CM0.out _).mono ?_
      rintro e w1 ⟨rfl, bw1⟩
      have k1 : Below wr.heap.size wr w1 := k0.trans (bw1.mono k0.size)
      go_wp2_with fail
      refine hK.out _ _ (HMK.out _ k1) (fun hHeld => ?_)
      clear hK K
      try go_frame
      refine wpAnyH_takeL (i := 7) (v := ?_) rfl (by kernel_rfl) (by kernel_rfl) (by kernel_rfl) (fun _ _ _ h => h) (Or.inl ⟨by rfl, ?_⟩) hHeld ?_
      rotate_left
      · (intro w hSw; (try dsimp only at hSw); go_simp; try with_reducible rfl)
      try go_frame
      refine wpAnyH_done (by kernel_rfl) ?_ _
      have z1 := cell_later k1 c1
      have z2 := cell_later k1 c2
      have z4 := cell_later k1 c4
      have hbz := Nat.lt_of_lt_of_le hbr k1.size
      go_wp2_with fail
      have k2 : Below wr.heap.size wr w1.drew := k1.trans ((Below.refl _ w1).drew.mono k1.size)
      refine wp_region_held_drew (S := (fun w' => w'.cell? ⟨b, j * 5, none⟩ = some (.string (markT K)) ∧ w'.cell? ⟨b, j * 5 + 3, none⟩ = some (.string (markT (K + 3))) ∧ b < w'.heap.size)) (by kernel_rfl) (HMK.out _ k2) (fun hHeld => ?_)
      refine wpAnyH_takeL (i := 0) (v := ?_) rfl (by kernel_rfl) (by kernel_rfl) (by kernel_rfl) (fun _ _ _ h => h) (Or.inl ⟨by rfl, ?_⟩) hHeld ?_
      rotate_left
      · (intro w hSw; (try dsimp only at hSw); go_simp; try with_reducible rfl)
      try go_frame
      refine wpAnyH_takeL (i := 1) (v := ?_) rfl (by kernel_rfl) (by kernel_rfl) (by kernel_rfl) (fun _ _ _ h => h) (Or.inl ⟨by rfl, ?_⟩) hHeld ?_
      rotate_left
      · (intro w hSw; (try dsimp only at hSw); go_simp; try with_reducible rfl)
      try go_frame
      refine wpAnyH_takeL (i := 2) (v := ?_) rfl (by kernel_rfl) (by kernel_rfl) (by kernel_rfl) (fun _ _ _ h => h) (Or.inl ⟨by rfl, ?_⟩) hHeld ?_
      rotate_left
      · (intro w hSw; (try dsimp only at hSw); go_simp; try with_reducible rfl)
      try go_frame
      refine wpAnyH_takeL (i := 3) (v := ?_) rfl (by kernel_rfl) (by kernel_rfl) (by kernel_rfl) (fun _ _ _ h => h) (Or.inl ⟨by rfl, ?_⟩) hHeld ?_
      rotate_left
      · (intro w hSw; (try dsimp only at hSw); go_simp; try with_reducible rfl)
      try go_frame
      refine wpAnyH_takeL (i := 4) (v := ?_) rfl (by kernel_rfl) (by kernel_rfl) (by kernel_rfl) (fun _ _ _ h => h) (Or.inl ⟨by rfl, ?_⟩) hHeld ?_
      rotate_left
      · (intro w hSw; (try dsimp only at hSw); go_simp; try with_reducible rfl)
      try go_frame
      refine wpAnyH_takeL (i := 5) (v := ?_) rfl (by kernel_rfl) (by kernel_rfl) (by kernel_rfl) (fun _ _ _ h => h) (Or.inl ⟨by rfl, ?_⟩) hHeld ?_
      rotate_left
      · (intro w hSw; (try dsimp only at hSw); go_simp; try with_reducible rfl)
      try go_frame
      refine wpAnyH_ready (rs := [6]) (by kernel_rfl) (by simp) ?_
      refine consL rfl (fun K hK => ?_) AllReadyH.nil
      go_simp
      refine (CM.out _).mono ?_
      rintro e w3 ⟨rfl, bw3⟩
      have k3 : Below wr.heap.size wr w3 := k2.trans (bw3.mono k2.size)
      go_wp2_with fail
      refine hK.out _ _ (HMK.out _ k3) (fun hHeld => ?_)
      clear hK K
      try go_frame
      refine wpAnyH_takeL (i := 7) (v := ?_) rfl (by kernel_rfl) (by kernel_rfl) (by kernel_rfl) (fun _ _ _ h => h) (Or.inl ⟨by rfl, ?_⟩) hHeld ?_
      rotate_left
      · (intro w hSw; (try dsimp only at hSw); go_simp; try with_reducible rfl)
      try go_frame
      refine wpAnyH_done (by kernel_rfl) ?_ _
      have y4 := cell_later k3 c4
      have hby := Nat.lt_of_lt_of_le hbr k3.size
      clear z1 z2 z4
      go_wp2
      go_roundw
      case rel => exact ⟨j + 1, by omega, by go_num, by congr 1; have := HK.out; omega, hb.trans (k3.mono hb.size)⟩
      case measure => simp [intOf]; omega
    · have hjn : j = n := by omega
      subst hjn
      have HK : Hid (K = k + 5 * j) := hK
      clear hK
      go_wp2
      go_ret
      exact ⟨ret_int (by rw [HK.out]), hb⟩
end Go.Proofs.YtlmgojlffgkciaaGreat
