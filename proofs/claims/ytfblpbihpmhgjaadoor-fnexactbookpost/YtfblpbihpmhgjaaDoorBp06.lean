/-
  What the laws draw from a list of numbers, from a list of texts, and an account, by walks of their Go text.
  Rows that are appended to, and a step law for append in a region that draws its order; no statement of the program stands here.
-/
import Derived.Test.YtfblpbihpmhgjaaDoorBp05
import Derived.Test.YtfblpbihpmhgjaaDoorBp00
import Derived.Deep.RegionLaw
import Derived.Deep.DeepCutAuto
namespace Go.Proofs.YtfblpbihpmhgjaaDoor
open Go.RowKit

set_option maxHeartbeats 400000 in
theorem num_any (Q : Int → Prop) (R P : Nat) (a : Option Addr) (len cap : Nat) (b off m c : Nat) (w : World) (h : RdAt w R a len cap P) (hP : P < 100000) (hm1 : 1 ≤ m) (hm2 : m ≤ 100) (hbR : b ≠ R) (hbw : b < w.heap.size)
    (hc : ∀ i, i < m → ∃ z : Int, w.cell? ⟨b, off + i, none⟩ = some (.int .i64 z) ∧ Q z) :
    Calls Tryd.prog 111 #[.pointer (some ⟨R, 0, none⟩), .slice (some ⟨b, off, none⟩) m c] w fun e w' => ∃ z : Int, e = .returned (.int .i64 z) ∧ Q z ∧ RdAt w' R a len cap (P + 1) ∧ w.grownBy w' (some R) := by
  have HC : Hid (∀ i, i < m → ∃ z : Int, w.cell? ⟨b, off + i, none⟩ = some (.int .i64 z) ∧ Q z) := hc
  clear hc
  go_enter Tryd.func111, Tryd.ntmps111
  go_wp2_with fail
  refine (pick_any R P a len cap _ _ h hP (by omega)).mono ?_
  rintro e w1 ⟨q, rfl, hq, hR1, hg1⟩
  obtain ⟨k, rfl⟩ := Int.eq_ofNat_of_zero_le hq.1
  have hk : k < m := by have := hq.2 (by omega); omega
  obtain ⟨z, hz, hQ⟩ := HC.out k hk
  have hz1 : w1.cell? ⟨b, off + k, none⟩ = some (.int .i64 z) := (grown_cell hg1 (x := ⟨b, off + k, none⟩) hbw hbR).trans hz
  clear hz hq
  go_wp2
  go_ret
  exact ⟨z, rfl, hQ, hR1, hg1⟩

set_option maxHeartbeats 400000 in
theorem of_any (Q : ByteArray → Prop) (R P : Nat) (a : Option Addr) (len cap : Nat) (b off m c : Nat) (w : World) (h : RdAt w R a len cap P) (hP : P < 100000) (hm1 : 1 ≤ m) (hm2 : m ≤ 100) (hbR : b ≠ R) (hbw : b < w.heap.size)
    (hc : ∀ i, i < m → ∃ z : ByteArray, w.cell? ⟨b, off + i, none⟩ = some (.string z) ∧ Q z) :
    Calls Tryd.prog 79 #[.pointer (some ⟨R, 0, none⟩), .slice (some ⟨b, off, none⟩) m c] w fun e w' => ∃ z : ByteArray, e = .returned (.string z) ∧ Q z ∧ RdAt w' R a len cap (P + 1) ∧ w.grownBy w' (some R) := by
  have HC : Hid (∀ i, i < m → ∃ z : ByteArray, w.cell? ⟨b, off + i, none⟩ = some (.string z) ∧ Q z) := hc
  clear hc
  go_enter Tryd.func79, Tryd.ntmps79
  go_wp2_with fail
  refine (pick_any R P a len cap _ _ h hP (by omega)).mono ?_
  rintro e w1 ⟨q, rfl, hq, hR1, hg1⟩
  obtain ⟨k, rfl⟩ := Int.eq_ofNat_of_zero_le hq.1
  have hk : k < m := by have := hq.2 (by omega); omega
  obtain ⟨z, hz, hQ⟩ := HC.out k hk
  have hz1 : w1.cell? ⟨b, off + k, none⟩ = some (.string z) := (grown_cell hg1 (x := ⟨b, off + k, none⟩) hbw hbR).trans hz
  clear hz hq
  go_wp2
  go_ret
  exact ⟨z, rfl, hQ, hR1, hg1⟩

/-- The cells of a list of texts that has just been written out. -/
theorem strs_new (w : World) (t : TypeId) (l : List ByteArray) (Q : ByteArray → Prop) (hQ : ∀ s ∈ l, Q s) : ∀ i, i < l.length → ∃ z : ByteArray, (w.alloc (.cells (l.map Value.string).toArray t)).cell? ⟨w.heap.size, 0 + i, none⟩ = some (.string z) ∧ Q z := by
  intro i hi
  refine ⟨l[i], ?_, hQ _ (List.getElem_mem hi)⟩
  rw [Nat.zero_add, World.cell?_alloc_new]
  simp [hi]
theorem ints_new (w : World) (t : TypeId) (l : List Int) (Q : Int → Prop) (hQ : ∀ s ∈ l, Q s) : ∀ i, i < l.length → ∃ z : Int, (w.alloc (.cells (l.map (Value.int .i64)).toArray t)).cell? ⟨w.heap.size, 0 + i, none⟩ = some (.int .i64 z) ∧ Q z := by
  intro i hi
  refine ⟨l[i], ?_, hQ _ (List.getElem_mem hi)⟩
  rw [Nat.zero_add, World.cell?_alloc_new]
  simp [hi]

/-- A text of few bytes, and not the account none. -/
def FewB (s : ByteArray) : Prop := s.size ≤ 8 ∧ ¬ s.data.toList = [110, 111, 110, 101]

theorem rd_new (w : World) (a : Option Addr) (len cap : Nat) (t : TypeId) (few : len ≤ 2000) (hb : len = 0 ∨ ∃ b off, a = some ⟨b, off, none⟩ ∧ b < w.heap.size ∧ ∀ i, i < len → ∃ z : Nat, z ≤ 255 ∧ w.cell? ⟨b, off + i, none⟩ = some (.int .u8 z)) :
    RdAt (w.alloc (.cells #[.slice a len cap, .int .i64 0] t)) w.heap.size a len cap 0 := by
  refine ⟨by simp, by simp, by simp, few, ?_⟩
  rcases hb with h0 | ⟨b, off, ha, hbw, hc⟩
  · exact Or.inl h0
  · refine Or.inr ⟨b, off, ha, by omega, by simp; omega, fun i hi => ?_⟩
    obtain ⟨z, hz, hcc⟩ := hc i hi
    exact ⟨z, hz, cell_later ((Below.refl _ _).alloc (Nat.le_refl _) _) hcc⟩

set_option maxHeartbeats 400000 in
theorem l9Open_any (a : Option Addr) (len cap : Nat) (w : World) (hl : len ≤ cap) (hcap : cap ≤ maxLen) (hb : len = 0 ∨ ∃ b off, a = some ⟨b, off, none⟩ ∧ b < w.heap.size ∧ ∀ i, i < len → ∃ z : Nat, z ≤ 255 ∧ w.cell? ⟨b, off + i, none⟩ = some (.int .u8 z)) :
    Calls Tryd.prog 76 #[.slice a len cap] w fun e w' => ∃ len', e = .returned (.pointer (some ⟨w.heap.size, 0, none⟩)) ∧ RdAt w' w.heap.size a len' cap 0 ∧ Below w.heap.size w w' ∧ w'.heap.size = w.heap.size + 1 := by
  unfold maxLen at hcap
  have HB : Hid (len = 0 ∨ ∃ b off, a = some ⟨b, off, none⟩ ∧ b < w.heap.size ∧ ∀ i, i < len → ∃ z : Nat, z ≤ 255 ∧ w.cell? ⟨b, off + i, none⟩ = some (.int .u8 z)) := hb
  clear hb
  by_cases h2 : 2000 < len
  · obtain ⟨b, off, rfl, hbw, hby⟩ : ∃ b off, a = some ⟨b, off, none⟩ ∧ b < w.heap.size ∧ ∀ i, i < len → ∃ z : Nat, z ≤ 255 ∧ w.cell? ⟨b, off + i, none⟩ = some (.int .u8 z) := by
      rcases HB.out with h0 | h0
      · omega
      · exact h0
    have HBY : Hid (∀ i, i < len → ∃ z : Nat, z ≤ 255 ∧ w.cell? ⟨b, off + i, none⟩ = some (.int .u8 z)) := hby
    clear hby
    have hcI : (2000 : Int) ≤ (cap : Int) := by omega
    go_enter Tryd.func76, Tryd.ntmps76
    go_wp2
    go_ret
    exact ⟨2000, rfl, rd_new w _ 2000 cap _ (by omega) (Or.inr ⟨b, off, rfl, hbw, fun i hi => HBY.out i (by omega)⟩), (Below.refl _ _).alloc (Nat.le_refl _) _, by simp⟩
  · go_enter Tryd.func76, Tryd.ntmps76
    go_wp2
    go_ret
    exact ⟨len, rfl, rd_new w _ len cap _ (by omega) HB.out, (Below.refl _ _).alloc (Nat.le_refl _) _, by simp⟩

end Go.Proofs.YtfblpbihpmhgjaaDoor

namespace Go.Proofs.YtfblpbihpmhgjaaDoor
open Go.RowKit

theorem grown_frozen {w w' : World} {row : Option Nat} (hg : w.grownBy w' row) {x : Addr} (hx : x.block < w.heap.size) (hn : some x.block ≠ row) : w'.frozen? x = w.frozen? x := World.frozen?_of_block (hg.block x.block hx hn)

theorem row_form {w : World} {base e size k : Nat} {v : Value} {xs : List Value} (h : w.ownsRow base e size v k xs) (hne : ¬ v = .slice none 0 0) : ∃ g cap, v = .slice (some ⟨g, 0, none⟩) k cap := by
  rcases h.2 with ⟨h', _⟩ | ⟨g, cap, _, h', _⟩
  · exact absurd h' hne
  · exact ⟨g, cap, h'⟩
/-- 'append' onto a row of the call's own, in a region that draws. -/
theorem step_append_own {P : Program} {ops : Array Oper} {o : Oper} {a : Act} {w : World} {K : Act → World → Prop} {Q : Exit → Act → World → Prop} {E : Prop}
    (hg : o.guard = none) (s x : Operand) (t : TypeId) (hop : o.op = Op.call { callee := Callee.builtin Builtin.append, args := #[s, x], argTypes := #[t, t] })
    (base : Nat) (e : TypeId) (i : TypeInfo) (z : Value) (size bytes : Nat) (h1 : P.underlying t = some (.slice e)) (h2 : P.info? e = some i) (h3 : i.zero = some z) (h4 : i.size = size) (h5 : i.bytes = bytes) (h6 : z.cells.size = size) (h7 : 0 < size)
    (v : Value) (n : Nat) (olds : List Value) (hs : a.eval s = v) (hown : w.ownsRow base e size v n olds)
    (ad : Addr) (m c : Nat) (news : List Value) (hx : a.eval x = .slice (some ad) m c) (hn : news.length = m * size) (hc : ∀ j u, news[j]? = some u → w.cell? (ad.add j) = some u) (h1c : ∀ u ∈ news, u.oneCell' = true)
    (b1 : n + m ≤ maxLen) (b2 : (n + m) * bytes ≤ 140737488355328) (b3 : base ≤ w.heap.size)
    (hK : ∀ v' w', w'.ownsRow base e size v' (n + m) (olds ++ news) → w.grownBy w' v.ownBlock → (v' = .slice none 0 0 ↔ v = .slice none 0 0 ∧ m = 0) → K (a.put o.dst v') w') :
    if Region.wanted o (yielded ops a.tmps) = true then Oper.wp P o a w K Q else E := by
  have hw : Region.wanted o (yielded ops a.tmps) = true := by simp [Region.wanted, hg]
  rw [if_pos hw]
  obtain ⟨v', w', hrun, r1, r2, r3⟩ := run_append_own (P := P) w base t o.type e i z size bytes h1 h2 h3 h4 h5 h6 h7 v n olds hown ad m c news hn hc h1c b1 b2 b3
  unfold Oper.wp
  simp [execOp, hop, resolve, invoke, builtin, hs, hx, hrun, Result.andThen]
  exact hK v' w' r1 r2 r3

end Go.Proofs.YtfblpbihpmhgjaaDoor
