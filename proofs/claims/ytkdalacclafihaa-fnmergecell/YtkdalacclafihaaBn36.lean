/-
  Plain: a run of entries of unlike times, and what a key has in it; no statement of the program stands here.
  Bytes that came in: how they lie.
  Bytes that came in, opened.
  The entries, the key and the time that the laws of cells draw, by a walk of its Go text.
-/
import Derived.Test.YtkdalacclafihaaBn27
import Derived.Test.YtkdalacclafihaaBn32
import Derived.Test.YtkdalacclafihaaBn35
import Derived.Test.YtkdalacclafihaaBn21
import Derived.Lib.SmallJoins
import Derived.OpenShut
import Derived.ChangeSlices
namespace Go.Proofs.Ytkdalacclafihaa

theorem entX_ent {k t : ByteArray} {q d n : Int} (h : EntX k t q d n) (h1 : 1 ≤ q) (h2 : q ≤ 100000) : entB k q d t n = true := by
  obtain ⟨_, _, hk, h3, _, h4, h5, h6, h7, h8⟩ := h
  have ht : d ≠ 1 → t.size = 0 := fun hd => by rw [h4 hd]; rfl
  have hkd : kindB d t n = true := by
    unfold kindB
    rcases hk with rfl | rfl | rfl
    · rfl
    · simp [ht (by decide), h3 rfl]
    · simp [ht (by decide)]
  unfold entB
  rw [h5, hkd]
  simp only [Bool.and_true, Bool.true_and, Bool.and_eq_true, decide_eq_true_eq]
  exact ⟨h1, h2, by omega, by omega, h6⟩
theorem cell_perm {A B : List EntD} (u : UnT A) (p : A.Perm B) (key : ByteArray) (seq : Int) : cellL A key seq = cellL B key seq := by
  unfold cellL
  rw [cutC_same (u.find key seq) (p.filter _)]
  rfl
theorem cell_found (A : List EntD) (key : ByteArray) (seq : Int) : cellL (findL A key seq) key seq = cellL A key seq := by
  unfold cellL
  rw [find_again]
theorem unT_unlike {F : List EntD} (u : UnT F) : Unlike F := u.imp (fun h e => h e.2)
/-- Entries of unlike times that fit make a run. -/
theorem of_drawn {F : List EntD} (h1 : 1 ≤ F.length) (h2 : F.length ≤ 150) (u : UnT F) (he : ∀ e ∈ F, entB e.1 e.2.1 e.2.2.1 e.2.2.2.1 e.2.2.2.2 = true) : ofB F = true ∧ ofL F = sortE F ∧ runB (sortE F) (ofM F) = true := by
  have hr := right_sort (unT_unlike u) he
  have hb : ofB F = true := by
    unfold ofB
    rw [hr]
    simp [h1, h2]
  refine ⟨hb, by unfold ofL; rw [if_pos hb], ?_⟩
  unfold runB ofM
  rw [if_pos hb, hr, sortE_len]
  simp [h1, h2]
theorem of_empty {F : List EntD} (h : F.length = 0) : ofB F = false ∧ ofL F = [] := by
  have hb : ofB F = false := by unfold ofB; rw [h]; rfl
  exact ⟨hb, by unfold ofL; rw [hb]; rfl⟩
end Go.Proofs.Ytkdalacclafihaa

namespace Go.Proofs.Ytkdalacclafihaa
open Go.RowKit

/-- The bytes that came in. -/
def BytesAt (w : World) (a : Option Addr) (len cap : Nat) : Prop := len ≤ cap ∧ cap ≤ maxLen ∧ (len = 0 ∨ ∃ b off, a = some ⟨b, off, none⟩ ∧ b < w.heap.size ∧ ∀ i, i < len → ∃ z : Nat, z ≤ 255 ∧ w.cell? ⟨b, off + i, none⟩ = some (.int .u8 z))

theorem BytesAt.keep {w w' : World} {a : Option Addr} {len cap : Nat} (h : BytesAt w a len cap) (hb : Below w.heap.size w w') : BytesAt w' a len cap := by
  obtain ⟨h1, h2, h3⟩ := h
  refine ⟨h1, h2, ?_⟩
  rcases h3 with e | ⟨b, off, ha, hlt, hc⟩
  · exact Or.inl e
  · exact Or.inr ⟨b, off, ha, Nat.lt_of_lt_of_le hlt hb.size, fun i hi => by obtain ⟨z, hz, hcc⟩ := hc i hi; exact ⟨z, hz, cell_later hb hcc⟩⟩

end Go.Proofs.Ytkdalacclafihaa

namespace Go.Proofs.Ytkdalacclafihaa
open Go.RowKit Go.Joins Go.ChangeShapes Go.WideShapes Go.ChangeAt

theorem Try.cellsU8 : Try.prog.cellsOf 5 = 1 := by kernel_rfl

set_option maxRecDepth 100000 in
theorem open_bytes {H : Type} {enc : TypeId × Value → H} {W : World} {b0 base : Nat} {v : Value} {d : DataW H} {p : List MemPlace} {held : Bool}
    (hv : Value.okWide Try.prog W .any b0 33 v) (h : DataW.Trod enc Try.prog W base (fun _ => true) held 33 v d p) :
    ∃ (a : Option Addr) (len cap : Nat), v = .slice a len cap ∧ BytesAt W a len cap := by
  obtain ⟨a1, len, cap, rfl⟩ := okWide_slice Try.underlying33 hv
  obtain ⟨fuel, hf⟩ := h
  rcases open_ints Try.underlying33 Try.underlying5 Try.cellsU8 hf with ⟨hcs, hx⟩ | ⟨a, len', cap', zs, hcs, _, hl, hm, hz, hx, hcell, hwz⟩
  · simp [Value.cells] at hcs
    obtain ⟨rfl, rfl, rfl⟩ := hcs
    exact ⟨none, 0, 0, rfl, Nat.le_refl _, Nat.zero_le _, Or.inl rfl⟩
  · simp [Value.cells] at hcs
    obtain ⟨rfl, rfl, rfl⟩ := hcs
    simp only [if_true] at hz
    refine ⟨some a, len, cap, rfl, hl, hm, ?_⟩
    by_cases h0 : len = 0
    · exact Or.inl h0
    right
    obtain ⟨ab, ao, spot⟩ := a
    have hspot : spot = none := by simpa [Addr.add] using World.cell?_spot (hcell 0 (by omega))
    subst hspot
    refine ⟨ab, ao, rfl, ?_, fun i hi => ?_⟩
    · have := World.block_lt_of_cell? _ _ (hcell 0 (by omega))
      simpa [Addr.add] using this
    · have hc := hcell i (by omega)
      rw [Addr.add_lit] at hc
      have hm' : zs.getD i 0 ∈ zs := by
        have hi' : i < zs.length := by omega
        rw [List.getD_eq_getElem?_getD, List.getElem?_eq_getElem hi']
        exact List.getElem_mem hi'
      have hb := bounds_u8 (hwz _ hm')
      obtain ⟨z, hz'⟩ := Int.eq_ofNat_of_zero_le hb.1
      rw [hz'] at hc hb
      exact ⟨z, by omega, hc⟩
end Go.Proofs.Ytkdalacclafihaa

namespace Go.Proofs.Ytkdalacclafihaa
open Go.RowKit

/-- Entries of unlike times, a key and a time that have been drawn. -/
def AllR (w : World) (e : Ending) (w' : World) : Prop :=
  ∃ (g n c : Nat) (L : List EntD) (key : ByteArray) (seq : Int), e = .returned (.tuple #[.slice (some ⟨g, 0, none⟩) n c, .string key, .int .i64 seq]) ∧ OwnE w' w.heap.size g n c L ∧ n ≤ 12 ∧ AllX L 24 ∧ KeyX key ∧ (0 ≤ seq ∧ seq ≤ 20) ∧ Below w.heap.size w w'
theorem below_read {w v v' : World} {R : Nat} (h : Below w.heap.size w v) (hg : v.grownBy v' (some R)) (hR : w.heap.size ≤ R) : Below w.heap.size w v' :=
  h.grown hg h.size (fun k e => by cases e; exact hR)

theorem few_text {L : List EntD} {B : Nat} (h : AllX L B) : ∀ e ∈ L, e.2.2.2.1.size ≤ 281474976710656 := fun e he => by
  have := (h.allF e he).2.1.1
  omega

set_option maxRecDepth 100000 in
set_option maxHeartbeats 1000000 in
theorem drawAll_any (a : Option Addr) (len cap : Nat) (w : World) (hb : BytesAt w a len cap) :
    Calls Try.prog 19 #[.slice a len cap] w (AllR w) := by
  obtain ⟨hc1, hc2, hc3⟩ := hb
  go_enter Try.func19, Try.ntmps19
  go_wp2_with fail
  refine (l9Open_any a len cap w hc1 hc2 hc3).mono ?_
  rintro e w1 ⟨len', rfl, hR1, hb1, hsz1⟩
  obtain ⟨R, hR⟩ : ∃ R, R = w.heap.size := ⟨_, rfl⟩
  rw [← hR] at hR1 ⊢
  have HRw : Hid (w.heap.size ≤ R) := by show w.heap.size ≤ R; omega
  have HLOW : Hid (Low a len' R) := by
    rcases hR1.bytes with h0 | ⟨b, off, ha, h1, h2, _⟩
    · exact Or.inl h0
    · exact Or.inr (fun b' off' e => by rw [ha] at e; cases e; omega)
  have HR1 : Hid (RdAt w1 R a len' cap 0) := hR1
  have HB1 : Hid (Below w.heap.size w w1) := hb1
  clear hc1 hc2 hc3 hsz1 hR hR1 hb1
  go_wp2_with fail
  refine (l3List_x R 0 12 a len' cap w1 HR1.out HLOW.out (by omega) (by omega)).mono ?_
  rintro e w2 ⟨g, n, c, P, L, rfl, hO, hn, hX, hR2, hP, hg2⟩
  have HO2 : Hid (OwnE w2 w1.heap.size g n c L) := hO
  have HX : Hid (AllX L 24) := hX
  have HR2 : Hid (RdAt w2 R a len' cap P) := hR2
  have HB2 : Hid (Below w.heap.size w w2) := below_read HB1.out hg2 HRw.out
  have hRl : R < w1.heap.size := HR1.out.lt
  have hgR : R < g := Nat.lt_of_lt_of_le hRl hO.lt.1
  clear hO hX hR2 hg2
  go_wp2_with fail
  refine (l3Key_x R P a len' cap w2 HR2.out (by omega)).mono ?_
  rintro e w3 ⟨key, rfl, hkey, hR3, hg3⟩
  have HO3 : Hid (OwnE w3 w1.heap.size g n c L) := HO2.out.gR hg3 hgR
  have HR3 : Hid (RdAt w3 R a len' cap (P + 1)) := hR3
  have HB3 : Hid (Below w.heap.size w w3) := below_read HB2.out hg3 HRw.out
  have HKEY : Hid (KeyX key) := hkey
  clear hkey hR3 hg3 HO2 HR2 HB2
  go_wp2_with fail
  refine (pick_any R (P + 1) a len' cap 20 w3 HR3.out (by omega) (by omega)).mono ?_
  rintro e w4 ⟨q, rfl, hq, hR4, hg4⟩
  have HO4 : Hid (OwnE w4 w1.heap.size g n c L) := HO3.out.gR hg4 hgR
  have HB4 : Hid (Below w.heap.size w w4) := below_read HB3.out hg4 HRw.out
  have HQ : Hid (PickR 20 q) := hq
  clear hq hR4 hg4 HO3 HR3 HB3
  go_wp2
  refine bodyPost_ret (v := .tuple #[.slice (some ⟨g, 0, none⟩) n c, .string key, .int .i64 q]) (by simp [results, Try.results19, go_sem]) rfl ?_
  exact ⟨g, n, c, L, key, q, rfl, HO4.out.mono HB1.out.size, hn, HX.out, HKEY.out, (by have := HQ.out; unfold PickR at this; omega), HB4.out⟩

/-! When two cells are one. -/
set_option maxRecDepth 100000 in
theorem neq_cell_same (b : Bool) (t : ByteArray) (n : Int) (w : World) : (binOp .neq 46 (.agg #[.bool b, .string t, .int .i64 n]) (.agg #[.bool b, .string t, .int .i64 n])).run Try.prog w = .ok (.bool false) w := by
  have hs := run_equalIn_struct (P := Try.prog) w 9999 46 #[.bool b, .string t, .int .i64 n] #[.bool b, .string t, .int .i64 n] (by kernel_rfl) (by kernel_rfl)
  simp [binOp, Op.equal, Op.maxDepth, hs, go_sem, Try.underlying46]
set_option maxRecDepth 100000 in
theorem eql_cell_same (b : Bool) (t : ByteArray) (n : Int) (w : World) : (binOp .eql 46 (.agg #[.bool b, .string t, .int .i64 n]) (.agg #[.bool b, .string t, .int .i64 n])).run Try.prog w = .ok (.bool true) w := by
  have hs := run_equalIn_struct (P := Try.prog) w 9999 46 #[.bool b, .string t, .int .i64 n] #[.bool b, .string t, .int .i64 n] (by kernel_rfl) (by kernel_rfl)
  simp [binOp, Op.equal, Op.maxDepth, hs, go_sem, Try.underlying46]
end Go.Proofs.Ytkdalacclafihaa
