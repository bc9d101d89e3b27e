/-
  The reader from which the laws draw: what it picks, by a walk of its Go text.
  Rows that are appended to, and a step law for append in a region that draws its order; no statement of the program stands here.
-/
import Derived.Test.YthhiahjafhkbbaaGreatProg
import Derived.Test.YthhiahjafhkbbaaGreatBn00
import Derived.WalkKit
import Derived.WalkSpells
import Derived.WalkLawsBesides
import Derived.Deep.QuietTactic
import Derived.BigQuiet
import Derived.Deep.RegionLaw
import Derived.Deep.DeepCutAuto
namespace Go.Proofs.YthhiahjafhkbbaaGreat
open Go.RowKit

/-- The reader at block R: the bytes that it reads lie elsewhere; P bytes have been asked for. -/
structure RdAt (w : World) (R : Nat) (a : Option Addr) (len cap P : Nat) : Prop where
  c0 : w.cell? ⟨R, 0, none⟩ = some (.slice a len cap)
  c1 : w.cell? ⟨R, 1, none⟩ = some (.int .i64 P)
  f1 : w.frozen? ⟨R, 1, none⟩ = false
  few : len ≤ 2000
  bytes : len = 0 ∨ ∃ b off, a = some ⟨b, off, none⟩ ∧ b ≠ R ∧ b < w.heap.size ∧ ∀ i, i < len → ∃ z : Nat, z ≤ 255 ∧ w.cell? ⟨b, off + i, none⟩ = some (.int .u8 z)

theorem RdAt.lt {w : World} {R : Nat} {a : Option Addr} {len cap P : Nat} (h : RdAt w R a len cap P) : R < w.heap.size := World.block_lt_of_cell? w _ h.c0

theorem grown_trans {a b c : World} {R : Option Nat} (h : a.grownBy b R) (k : b.grownBy c R) : a.grownBy c R :=
  ⟨k.os.trans h.os, k.tape.trans h.tape, k.output.trans h.output, Nat.le_trans h.size k.size, fun i hi hn => (k.block i (Nat.lt_of_lt_of_le hi h.size) hn).trans (h.block i hi hn)⟩
theorem grown_cell {w w' : World} {R : Nat} (hg : w.grownBy w' (some R)) {x : Addr} (hx : x.block < w.heap.size) (hn : x.block ≠ R) : w'.cell? x = w.cell? x :=
  World.cell?_of_block (hg.block x.block hx (fun e => hn (by cases e; rfl)))

/-- Behind a step that leaves the reader alone. -/
theorem RdAt.below {w w' : World} {R : Nat} {a : Option Addr} {len cap P : Nat} (h : RdAt w R a len cap P) (hb : Below w.heap.size w w') : RdAt w' R a len cap P where
  c0 := cell_later hb h.c0
  c1 := cell_later hb h.c1
  f1 := (hb.frozen (p := ⟨R, 1, none⟩) h.lt).trans h.f1
  few := h.few
  bytes := by
    rcases h.bytes with h0 | ⟨b, off, ha, hb1, hb2, hc⟩
    · exact Or.inl h0
    · exact Or.inr ⟨b, off, ha, hb1, Nat.lt_of_lt_of_le hb2 hb.size, fun i hi => by obtain ⟨z, hz, hcc⟩ := hc i hi; exact ⟨z, hz, cell_later hb hcc⟩⟩

/-- Behind the counter's store. -/
theorem RdAt.next {w : World} {R : Nat} {a : Option Addr} {len cap P : Nat} (h : RdAt w R a len cap P) : RdAt (w.setCell ⟨R, 1, none⟩ (.int .i64 ((P : Int) + 1))) R a len cap (P + 1) := by
  refine ⟨?_, ?_, ?_, h.few, ?_⟩
  · rw [World.cell?_setCell_other _ _ _ _ (by simp)]; exact h.c0
  · exact World.cell?_setCell_same' _ _ _ (by rw [h.c1]; rfl)
  · rw [World.frozen?_setCell]; exact h.f1
  · rcases h.bytes with h0 | ⟨b, off, ha, hb1, hb2, hc⟩
    · exact Or.inl h0
    · refine Or.inr ⟨b, off, ha, hb1, by simpa [World.setCell] using hb2, fun i hi => ?_⟩
      obtain ⟨z, hz, hcc⟩ := hc i hi
      exact ⟨z, hz, by rw [World.cell?_setCell_other _ _ _ _ (fun e => hb1 (congrArg Addr.block e).symm)]; exact hcc⟩

theorem grown_next (w : World) (R : Nat) (v : Value) : w.grownBy (w.setCell ⟨R, 1, none⟩ v) (some R) :=
  ⟨rfl, rfl, rfl, by simp [World.setCell], fun k _ hk => Below.heap_setCell _ _ _ _ (fun e => hk (by rw [e]))⟩
theorem grown_below {w w' : World} {R : Option Nat} (h : Below w.heap.size w w') : w.grownBy w' R := ⟨h.os, h.tape, h.output, h.size, fun k hk _ => h.block k hk⟩

/-- What is picked of n. -/
def PickR (n q : Int) : Prop := 0 ≤ q ∧ (1 ≤ n → q < n)

theorem xor_i64 (a b : Nat) (ha : a < 4611686018427387904) (hb : b < 4611686018427387904) : bits .xor .i64 (a : Int) (b : Int) = ((a ^^^ b : Nat) : Int) := by
  have hx : a ^^^ b < 2 ^ 62 := Nat.xor_lt_two_pow (by omega) (by omega)
  have h1 : (BitVec.ofInt 64 (a : Int)).toNat = a := by
    rw [BitVec.ofInt_natCast, BitVec.toNat_ofNat]; exact Nat.mod_eq_of_lt (by omega)
  have h2 : (BitVec.ofInt 64 (b : Int)).toNat = b := by
    rw [BitVec.ofInt_natCast, BitVec.toNat_ofNat]; exact Nat.mod_eq_of_lt (by omega)
  show IntKind.i64.wrap ((BitVec.ofInt 64 (a : Int) ^^^ BitVec.ofInt 64 (b : Int)).toNat : Int) = _
  rw [BitVec.toNat_xor, h1, h2, IntKind.wrap_i64]
  omega

theorem wrap_small (n : Int) (h0 : 0 ≤ n) (h1 : n ≤ 9223372036854775807) : wrap64 n = n := by
  unfold wrap64
  omega

theorem pick_far (z y P len : Nat) (n : Int) (hz : z ≤ 255) (hy : y ≤ 255) (hP : P < 100000) (hn : 1 ≤ n) :
    PickR n ((bits BinOp.xor IntKind.i64 (wrap64 (↑z * 131 + ↑y * 1117 + ↑P * 29 + wrap64 (wrap64 (↑P / ↑len) * 53))) (wrap64 ((wrap64 (↑z * 131 + ↑y * 1117 + ↑P * 29 + wrap64 (wrap64 (↑P / ↑len) * 53))).tdiv 64))).tmod n) := by
  have hq : ((P : Int) / (len : Int)) = ((P / len : Nat) : Int) := (Int.natCast_ediv P len).symm
  have hle : P / len ≤ P := Nat.div_le_self _ _
  rw [hq]
  generalize P / len = Q at hle
  rw [wrap_small (Q : Int) (by omega) (by omega), wrap_small ((Q : Int) * 53) (by omega) (by omega), wrap_small _ (by omega) (by omega)]
  have e : (↑z * 131 + ↑y * 1117 + ↑P * 29 + ↑Q * 53 : Int) = ((z * 131 + y * 1117 + P * 29 + Q * 53 : Nat) : Int) := by omega
  rw [e]
  have hX : z * 131 + y * 1117 + P * 29 + Q * 53 < 100000000 := by omega
  generalize z * 131 + y * 1117 + P * 29 + Q * 53 = X at hX
  have e2 : ((X : Int).tdiv 64) = ((X / 64 : Nat) : Int) := by
    rw [Int.tdiv_eq_ediv_of_nonneg (by omega)]; omega
  rw [e2, wrap_small _ (by omega) (by omega), xor_i64 _ _ (by omega) (by omega)]
  generalize X ^^^ X / 64 = Y
  rw [Int.tmod_eq_emod_of_nonneg (by omega)]
  exact ⟨Int.emod_nonneg _ (by omega), fun _ => Int.emod_lt_of_pos _ (by omega)⟩

set_option maxHeartbeats 2000000 in
theorem pick_any (R P : Nat) (a : Option Addr) (len cap : Nat) (n : Int) (w : World) (h : RdAt w R a len cap P) (hP : P < 100000) (hn : n ≤ 1000000) :
    Calls Tryz.prog 29 #[.pointer (some ⟨R, 0, none⟩), .int .i64 n] w fun e w' => ∃ q : Int, e = .returned (.int .i64 q) ∧ PickR n q ∧ RdAt w' R a len cap (P + 1) ∧ w.grownBy w' (some R) := by
  have c0 := h.c0
  have c1 := h.c1
  have f1 := h.f1
  have few := h.few
  have H : Hid (RdAt w R a len cap P) := h
  clear h
  by_cases h1 : n < 1
  · go_enter Tryz.func29, Tryz.ntmps29
    go_wp2
    go_ret
    exact ⟨0, rfl, ⟨by omega, fun h => by omega⟩, H.out.next, grown_next w R _⟩
  by_cases h2 : len = 0
  · subst h2
    go_enter Tryz.func29, Tryz.ntmps29
    go_wp2
    go_ret
    exact ⟨0, rfl, ⟨by omega, fun h => by omega⟩, H.out.next, grown_next w R _⟩
  obtain ⟨b, off, rfl, hbR, hbw, hbytes⟩ : ∃ b off, a = some ⟨b, off, none⟩ ∧ b ≠ R ∧ b < w.heap.size ∧ ∀ i, i < len → ∃ z : Nat, z ≤ 255 ∧ w.cell? ⟨b, off + i, none⟩ = some (.int .u8 z) := by
    rcases H.out.bytes with h0 | h0
    · exact absurd h0 h2
    · exact h0
  have HB : Hid (∀ i, i < len → ∃ z : Nat, z ≤ 255 ∧ w.cell? ⟨b, off + i, none⟩ = some (.int .u8 z)) := hbytes
  clear hbytes
  have hl0 : ((len : Int) == 0) = false := by simpa using h2
  by_cases h3 : P < len
  · obtain ⟨z, hz, hcz⟩ := HB.out P h3
    have hcz' : (w.setCell ⟨R, 1, none⟩ (.int .i64 ((P : Int) + 1))).cell? ⟨b, off + P, none⟩ = some (.int .u8 z) := by rw [World.cell?_setCell_other _ _ _ _ (fun e => hbR (congrArg Addr.block e).symm)]; exact hcz
    go_enter Tryz.func29, Tryz.ntmps29
    go_wp2
    go_ret
    exact ⟨_, rfl, ⟨Int.emod_nonneg _ (by omega), fun _ => Int.emod_lt_of_pos _ (by omega)⟩, H.out.next, grown_next w R _⟩
  · have hm1 : P % len < len := Nat.mod_lt _ (by omega)
    have hm2 : (P * 7 + 3) % len < len := Nat.mod_lt _ (by omega)
    obtain ⟨z, hz, hcz⟩ := HB.out (P % len) hm1
    obtain ⟨y, hy, hcy⟩ := HB.out ((P * 7 + 3) % len) hm2
    have hcz' : (w.setCell ⟨R, 1, none⟩ (.int .i64 ((P : Int) + 1))).cell? ⟨b, off + P % len, none⟩ = some (.int .u8 z) := by rw [World.cell?_setCell_other _ _ _ _ (fun e => hbR (congrArg Addr.block e).symm)]; exact hcz
    have hcy' : (w.setCell ⟨R, 1, none⟩ (.int .i64 ((P : Int) + 1))).cell? ⟨b, off + (P * 7 + 3) % len, none⟩ = some (.int .u8 y) := by rw [World.cell?_setCell_other _ _ _ _ (fun e => hbR (congrArg Addr.block e).symm)]; exact hcy
    have hlp : (0 : Int) < (len : Int) := by omega
    have hi0 : (0 : Int) ≤ (P : Int) % (len : Int) := Int.emod_nonneg _ (by omega)
    have hi1 : (P : Int) % (len : Int) < (len : Int) := Int.emod_lt_of_pos _ hlp
    have hj0 : (0 : Int) ≤ ((P : Int) * 7 + 3) % (len : Int) := Int.emod_nonneg _ (by omega)
    have hj1 : ((P : Int) * 7 + 3) % (len : Int) < (len : Int) := Int.emod_lt_of_pos _ hlp
    go_enter Tryz.func29, Tryz.ntmps29
    go_wp2_with fail
    go_quiet (fail)
    go_wp2
    go_ret
    exact ⟨_, rfl, pick_far z y P len n hz hy hP (by omega), RdAt.below H.out.next (below_drewN (Below.refl _ _) _), grown_trans (grown_next w R _) (grown_below (below_drewN (Below.refl _ _) _))⟩

end Go.Proofs.YthhiahjafhkbbaaGreat

namespace Go.Proofs.YthhiahjafhkbbaaGreat
open Go.RowKit

theorem grown_frozen {w w' : World} {row : Option Nat} (hg : w.grownBy w' row) {x : Addr} (hx : x.block < w.heap.size) (hn : some x.block ≠ row) : w'.frozen? x = w.frozen? x := World.frozen?_of_block (hg.block x.block hx hn)

theorem row_form {w : World} {base e size k : Nat} {v : Value} {xs : List Value} (h : w.ownsRow base e size v k xs) (hne : ¬ v = .slice none 0 0) : ∃ g cap, v = .slice (some ⟨g, 0, none⟩) k cap := by
  rcases h.2 with ⟨h', _⟩ | ⟨g, cap, _, h', _⟩
  · exact absurd h' hne
  · exact ⟨g, cap, h'⟩
/-- 'append' onto a row of the call's own, in a region that draws. -/
theorem step_append_own {P : Program} {ops : Array Oper} {o : Oper} {a : Act} {w : World} {K : Act → World → Prop} {Q : Exit → Act → World → Prop} {E : Prop}
    (hg : o.guard = none) (s x : Operand) (t : TypeId) (hop : o.op = Op.call { callee := Callee.builtin Builtin.append, args := #[s, x], argTypes := #[t, t] })
    (base : Nat) (e : TypeId) (i : TypeInfo) (z : Value) (size bytes : Nat) (h1 : P.underlying t = some (.slice e)) (h2 : P.info? e = some i) (h3 : i.zero = some z) (h4 : i.size = size) (h5 : i.bytes = bytes) (h6 : z.cells.size = size) (h7 : 0 < size)
    (v : Value) (n : Nat) (olds : List Value) (hs : a.eval s = v) (hown : w.ownsRow base e size v n olds)
    (ad : Addr) (m c : Nat) (news : List Value) (hx : a.eval x = .slice (some ad) m c) (hn : news.length = m * size) (hc : ∀ j u, news[j]? = some u → w.cell? (ad.add j) = some u) (h1c : ∀ u ∈ news, u.oneCell' = true)
    (b1 : n + m ≤ maxLen) (b2 : (n + m) * bytes ≤ 140737488355328) (b3 : base ≤ w.heap.size)
    (hK : ∀ v' w', w'.ownsRow base e size v' (n + m) (olds ++ news) → w.grownBy w' v.ownBlock → (v' = .slice none 0 0 ↔ v = .slice none 0 0 ∧ m = 0) → K (a.put o.dst v') w') :
    if Region.wanted o (yielded ops a.tmps) = true then Oper.wp P o a w K Q else E := by
  have hw : Region.wanted o (yielded ops a.tmps) = true := by simp [Region.wanted, hg]
  rw [if_pos hw]
  obtain ⟨v', w', hrun, r1, r2, r3⟩ := run_append_own (P := P) w base t o.type e i z size bytes h1 h2 h3 h4 h5 h6 h7 v n olds hown ad m c news hn hc h1c b1 b2 b3
  unfold Oper.wp
  simp [execOp, hop, resolve, invoke, builtin, hs, hx, hrun, Result.andThen]
  exact hK v' w' r1 r2 r3

end Go.Proofs.YthhiahjafhkbbaaGreat
