/-
  The entries, the key and the time that the laws of cells draw, by a walk of its Go text.
-/
import Derived.Test.YtkdalacclafihaaListX
import Derived.Test.YtkdalacclafihaaBytes
namespace Go.Proofs.Ytkdalacclafihaa
open Go.RowKit

/-- Entries of unlike times, a key and a time that have been drawn. -/
def AllR (w : World) (e : Ending) (w' : World) : Prop :=
  ∃ (g n c : Nat) (L : List EntD) (key : ByteArray) (seq : Int), e = .returned (.tuple #[.slice (some ⟨g, 0, none⟩) n c, .string key, .int .i64 seq]) ∧ OwnE w' w.heap.size g n c L ∧ n ≤ 12 ∧ AllX L 24 ∧ KeyX key ∧ (0 ≤ seq ∧ seq ≤ 20) ∧ Below w.heap.size w w'
theorem below_read {w v v' : World} {R : Nat} (h : Below w.heap.size w v) (hg : v.grownBy v' (some R)) (hR : w.heap.size ≤ R) : Below w.heap.size w v' :=
  h.grown hg h.size (fun k e => by cases e; exact hR)

theorem few_text {L : List EntD} {B : Nat} (h : AllX L B) : ∀ e ∈ L, e.2.2.2.1.size ≤ 281474976710656 := fun e he => by
  have := (h.allF e he).2.1.1
  omega

set_option maxRecDepth 100000 in
set_option maxHeartbeats 1000000 in
theorem drawAll_any (a : Option Addr) (len cap : Nat) (w : World) (hb : BytesAt w a len cap) :
    Calls Try.prog 19 #[.slice a len cap] w (AllR w) := by
  obtain ⟨hc1, hc2, hc3⟩ := hb
  go_enter Try.func19, Try.ntmps19
  go_wp2_with fail
  refine (l9Open_any a len cap w hc1 hc2 hc3).mono ?_
  rintro e w1 ⟨len', rfl, hR1, hb1, hsz1⟩
  obtain ⟨R, hR⟩ : ∃ R, R = w.heap.size := ⟨_, rfl⟩
  rw [← hR] at hR1 ⊢
  have HRw : Hid (w.heap.size ≤ R) := by show w.heap.size ≤ R; omega
  have HLOW : Hid (Low a len' R) := by
    rcases hR1.bytes with h0 | ⟨b, off, ha, h1, h2, _⟩
    · exact Or.inl h0
    · exact Or.inr (fun b' off' e => by rw [ha] at e; cases e; omega)
  have HR1 : Hid (RdAt w1 R a len' cap 0) := hR1
  have HB1 : Hid (Below w.heap.size w w1) := hb1
  clear hc1 hc2 hc3 hsz1 hR hR1 hb1
  go_wp2_with fail
  refine (l3List_x R 0 12 a len' cap w1 HR1.out HLOW.out (by omega) (by omega)).mono ?_
  rintro e w2 ⟨g, n, c, P, L, rfl, hO, hn, hX, hR2, hP, hg2⟩
  have HO2 : Hid (OwnE w2 w1.heap.size g n c L) := hO
  have HX : Hid (AllX L 24) := hX
  have HR2 : Hid (RdAt w2 R a len' cap P) := hR2
  have HB2 : Hid (Below w.heap.size w w2) := below_read HB1.out hg2 HRw.out
  have hRl : R < w1.heap.size := HR1.out.lt
  have hgR : R < g := Nat.lt_of_lt_of_le hRl hO.lt.1
  clear hO hX hR2 hg2
  go_wp2_with fail
  refine (l3Key_x R P a len' cap w2 HR2.out (by omega)).mono ?_
  rintro e w3 ⟨key, rfl, hkey, hR3, hg3⟩
  have HO3 : Hid (OwnE w3 w1.heap.size g n c L) := HO2.out.gR hg3 hgR
  have HR3 : Hid (RdAt w3 R a len' cap (P + 1)) := hR3
  have HB3 : Hid (Below w.heap.size w w3) := below_read HB2.out hg3 HRw.out
  have HKEY : Hid (KeyX key) := hkey
  clear hkey hR3 hg3 HO2 HR2 HB2
  go_wp2_with fail
  refine (pick_any R (P + 1) a len' cap 20 w3 HR3.out (by omega) (by omega)).mono ?_
  rintro e w4 ⟨q, rfl, hq, hR4, hg4⟩
  have HO4 : Hid (OwnE w4 w1.heap.size g n c L) := HO3.out.gR hg4 hgR
  have HB4 : Hid (Below w.heap.size w w4) := below_read HB3.out hg4 HRw.out
  have HQ : Hid (PickR 20 q) := hq
  clear hq hR4 hg4 HO3 HR3 HB3
  go_wp2
  refine bodyPost_ret (v := .tuple #[.slice (some ⟨g, 0, none⟩) n c, .string key, .int .i64 q]) (by simp [results, Try.results19, go_sem]) rfl ?_
  exact ⟨g, n, c, L, key, q, rfl, HO4.out.mono HB1.out.size, hn, HX.out, HKEY.out, (by have := HQ.out; unfold PickR at this; omega), HB4.out⟩

/-! When two cells are one. -/
set_option maxRecDepth 100000 in
theorem neq_cell_same (b : Bool) (t : ByteArray) (n : Int) (w : World) : (binOp .neq 46 (.agg #[.bool b, .string t, .int .i64 n]) (.agg #[.bool b, .string t, .int .i64 n])).run Try.prog w = .ok (.bool false) w := by
  have hs := run_equalIn_struct (P := Try.prog) w 9999 46 #[.bool b, .string t, .int .i64 n] #[.bool b, .string t, .int .i64 n] (by kernel_rfl) (by kernel_rfl)
  simp [binOp, Op.equal, Op.maxDepth, hs, go_sem, Try.underlying46]
set_option maxRecDepth 100000 in
theorem eql_cell_same (b : Bool) (t : ByteArray) (n : Int) (w : World) : (binOp .eql 46 (.agg #[.bool b, .string t, .int .i64 n]) (.agg #[.bool b, .string t, .int .i64 n])).run Try.prog w = .ok (.bool true) w := by
  have hs := run_equalIn_struct (P := Try.prog) w 9999 46 #[.bool b, .string t, .int .i64 n] #[.bool b, .string t, .int .i64 n] (by kernel_rfl) (by kernel_rfl)
  simp [binOp, Op.equal, Op.maxDepth, hs, go_sem, Try.underlying46]
end Go.Proofs.Ytkdalacclafihaa
