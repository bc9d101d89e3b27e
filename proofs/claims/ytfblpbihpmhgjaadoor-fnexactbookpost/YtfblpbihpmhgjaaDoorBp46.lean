/-
  The laws' marks on a list of entries: written, and found again, by walks of their Go text.
-/
import Derived.Test.YtfblpbihpmhgjaaDoorBp00
import Derived.Test.YtfblpbihpmhgjaaDoorBp39
import Derived.Test.YtfblpbihpmhgjaaDoorBp19
import Derived.Test.YtfblpbihpmhgjaaDoorBp41
namespace Go.Proofs.YtfblpbihpmhgjaaDoor
open Go.RowKit

/-- The entry that number k marks with. -/
def markEnt (k : Nat) : EntD := (markT k, ((k + 1 : Nat) : Int), ((k + 2 : Nat) : Int), markT (k + 3), ((k + 4 : Nat) : Int))
/-- The marks of n entries, from k on. -/
def markL (k n : Nat) : List EntD := (List.range n).map (fun j => markEnt (k + 5 * j))
theorem markL_len (k n : Nat) : (markL k n).length = n := by simp [markL]
theorem markL_at {k n j : Nat} {l : EntD} (h : (markL k n)[j]? = some l) : j < n ∧ l = markEnt (k + 5 * j) := by
  have h1 := (List.getElem?_eq_some_iff.1 h).1
  rw [markL_len] at h1
  refine ⟨h1, ?_⟩
  have : (markL k n)[j]? = some (markEnt (k + 5 * j)) := by simp [markL, h1]
  rw [this] at h
  cases h
  rfl
theorem digs_len (f p : Nat) (acc : List UInt8) : (digs f p acc).length ≤ f + acc.length := by
  induction f generalizing p acc with
  | zero => simp [digs]
  | succ f ih =>
    unfold digs
    split
    · omega
    · have := ih (p / 10) (UInt8.ofNat (48 + p % 10) :: acc)
      rw [List.length_cons] at this
      omega
theorem markT_size (k : Nat) : (markT k).size ≤ 1 + k := by
  unfold markT
  rw [ByteArray.size_append]
  have := digs_len k k []
  show 1 + (digs k k []).toArray.size ≤ 1 + k
  simp at this ⊢
  exact this
theorem wf_small (x : Nat) (h : x ≤ 2000000000) : (Lit.int .i64 (x : Int)).wf = true := by
  simp only [Lit.wf, IntKind.min, IntKind.max, IntKind.signed, IntKind.bits, Bool.and_eq_true, decide_eq_true_eq, if_true]
  omega
theorem markL_wf (k n : Nat) (h : k + 5 * n ≤ 1000000000) : ∀ l ∈ markL k n, EntW l := by
  intro l hl
  obtain ⟨j, hj, rfl⟩ := List.mem_map.1 hl
  have hj' := List.mem_range.1 hj
  have s1 := markT_size (k + 5 * j)
  have s2 := markT_size (k + 5 * j + 3)
  exact ⟨by show (markT (k + 5 * j)).size ≤ maxLen; unfold maxLen; omega, wf_small _ (by omega), wf_small _ (by omega), by show (markT (k + 5 * j + 3)).size ≤ maxLen; unfold maxLen; omega, wf_small _ (by omega)⟩

set_option maxRecDepth 100000 in
set_option maxHeartbeats 2000000 in
theorem markE_any (base b n cap k : Nat) (L : List EntD) (w : World) (hO : OwnE w base b n cap L) (hk : 1 ≤ k) (hn : k + 5 * n ≤ 1000000000) :
    Calls Tryd.prog 70 #[.slice (some ⟨b, 0, none⟩) n cap, .int .i64 k] w fun e w' => e = .returned (.int .i64 ((k + 5 * n : Nat) : Int)) ∧ OwnE w' base b n cap (markL k n) ∧ w.grownBy w' (some b) := by
  have hbw := hO.lt.2
  have HO0 : Hid (w.ownsRow base 85 5 (.slice (some ⟨b, 0, none⟩) n cap) n (flatE L)) := hO.owns
  clear hO
  go_enter Tryd.func70, Tryd.ntmps70
  go_wp2
  go_loopw [1, 5] (fun kv iv wr => ∃ (j : Nat) (xs : List Value), j ≤ n ∧ iv = .int .i64 j ∧ kv = .int .i64 ((k + 5 * j : Nat) : Int) ∧ wr.ownsRow base 85 5 (.slice (some ⟨b, 0, none⟩) n cap) n xs ∧ w.grownBy wr (some b) ∧ (∀ i, i < j → RowEnt xs i (markEnt (k + 5 * i)))) (fun _ iv _ => n - (intOf iv).toNat)
  case atStart => exact ⟨0, _, Nat.zero_le _, rfl, rfl, HO0.out, ⟨rfl, rfl, rfl, Nat.le_refl _, fun _ _ _ => rfl⟩, fun i hi => absurd hi (Nat.not_lt_zero _)⟩
  case round =>
    obtain ⟨j, xs, hj, rfl, rfl, ho, hg, hrow⟩ := hrel
    have HROW : Hid (∀ i, i < j → RowEnt xs i (markEnt (k + 5 * i))) := hrow
    have HO : Hid (wr.ownsRow base 85 5 (.slice (some ⟨b, 0, none⟩) n cap) n xs) := ho
    have HG : Hid (w.grownBy wr (some b)) := hg
    have hbr := (ho.lt b rfl).2
    clear hrow ho hg
    obtain ⟨K, hK⟩ : ∃ K, K = k + 5 * j := ⟨_, rfl⟩
    rw [← hK]
    by_cases hlt : j < n
    · have hK1 : 1 ≤ K := by omega
      have hK2 : K + 5 ≤ 1000000000 := by omega
      have HK : Hid (K = k + 5 * j) := hK
      clear hK
      go_wp2_with fail
      refine (markText_any K _ hK1 (by omega)).mono ?_
      rintro e w1 ⟨rfl, hb1⟩
      have ho1 : w1.ownsRow base 85 5 (.slice (some ⟨b, 0, none⟩) n cap) n xs := HO.out.kept (row := none) ⟨hb1.os, hb1.tape, hb1.output, hb1.size, fun k hk _ => hb1.block k hk⟩ (.inr (by simp [Value.ownBlock]))
      have c0 : ∃ v, w1.cell? ⟨b, j * 5, none⟩ = some v := ⟨_, (ho1.cellAt _ (by omega)).trans (List.getElem?_eq_getElem (by rw [ho1.1]; omega))⟩
      obtain ⟨v0, c0⟩ := c0
      have f0 : w1.frozen? ⟨b, j * 5, none⟩ = false := ho1.frozenAt _
      have c1 : ∃ v, w1.cell? ⟨b, j * 5 + 1, none⟩ = some v := ⟨_, (ho1.cellAt _ (by omega)).trans (List.getElem?_eq_getElem (by rw [ho1.1]; omega))⟩
      obtain ⟨v1, c1⟩ := c1
      have f1 : w1.frozen? ⟨b, j * 5 + 1, none⟩ = false := ho1.frozenAt _
      have c2 : ∃ v, w1.cell? ⟨b, j * 5 + 2, none⟩ = some v := ⟨_, (ho1.cellAt _ (by omega)).trans (List.getElem?_eq_getElem (by rw [ho1.1]; omega))⟩
      obtain ⟨v2, c2⟩ := c2
      have f2 : w1.frozen? ⟨b, j * 5 + 2, none⟩ = false := ho1.frozenAt _
      have c3 : ∃ v, w1.cell? ⟨b, j * 5 + 3, none⟩ = some v := ⟨_, (ho1.cellAt _ (by omega)).trans (List.getElem?_eq_getElem (by rw [ho1.1]; omega))⟩
      obtain ⟨v3, c3⟩ := c3
      have f3 : w1.frozen? ⟨b, j * 5 + 3, none⟩ = false := ho1.frozenAt _
      have c4 : ∃ v, w1.cell? ⟨b, j * 5 + 4, none⟩ = some v := ⟨_, (ho1.cellAt _ (by omega)).trans (List.getElem?_eq_getElem (by rw [ho1.1]; omega))⟩
      obtain ⟨v4, c4⟩ := c4
      have f4 : w1.frozen? ⟨b, j * 5 + 4, none⟩ = false := ho1.frozenAt _
      have HO1 : Hid (w1.ownsRow base 85 5 (.slice (some ⟨b, 0, none⟩) n cap) n xs) := ho1
      have hbw1 := (ho1.lt b rfl).2
      clear ho1
      have CM : Hid (∀ w, Calls Tryd.prog 96 #[.int .i64 ((K : Int) + 1 + 1 + 1)] w fun e w' => e = .returned (.string (markT (K + 3))) ∧ Below w.heap.size w w') := by
        have e3 : (K : Int) + 1 + 1 + 1 = ((K + 3 : Nat) : Int) := by omega
        rw [e3]
        exact fun w => markText_any (K + 3) w (by omega) (by omega)
      have HME : Hid (markEnt (k + 5 * j) = (markT K, (K : Int) + 1, (K : Int) + 1 + 1, markT (K + 3), (K : Int) + 1 + 1 + 1 + 1)) := by
        show markEnt (k + 5 * j) = _
        rw [← HK.out]
        unfold markEnt
        have a1 : ((K + 1 : Nat) : Int) = (K : Int) + 1 := by omega
        have a2 : ((K + 2 : Nat) : Int) = (K : Int) + 1 + 1 := by omega
        have a4 : ((K + 4 : Nat) : Int) = (K : Int) + 1 + 1 + 1 + 1 := by omega
        rw [a1, a2, a4]
      go_wp2_with fail
      have t0 := HO1.out.stored (j * 5) (.string (markT K))
      have t1 := t0.1.stored (j * 5 + 1) (.int .i64 ((K : Int) + 1))
      have t2 := t1.1.stored (j * 5 + 2) (.int .i64 ((K : Int) + 1 + 1))
      obtain ⟨W1, hW1⟩ : ∃ W1, W1 = (((w1.setCell ⟨b, j * 5, none⟩ (.string (markT K))).setCell ⟨b, j * 5 + 1, none⟩ (.int .i64 ((K : Int) + 1))).setCell ⟨b, j * 5 + 2, none⟩ (.int .i64 ((K : Int) + 1 + 1))) := ⟨_, rfl⟩
      have ho2 : W1.ownsRow base 85 5 (.slice (some ⟨b, 0, none⟩) n cap) n ((xs.set (j * 5) (.string (markT K))).set (j * 5 + 1) (.int .i64 ((K : Int) + 1)) |>.set (j * 5 + 2) (.int .i64 ((K : Int) + 1 + 1))) := by rw [hW1]; exact t2.1
      have g1 : wr.grownBy W1 (some b) := by rw [hW1]; exact ⟨hb1.os, hb1.tape, hb1.output, by have := hb1.size; simpa [World.setCell] using this, fun q hq hne => by
        have hqb : q ≠ b := fun e => hne (by rw [e])
        rw [Below.heap_setCell _ _ _ _ hqb, Below.heap_setCell _ _ _ _ hqb, Below.heap_setCell _ _ _ _ hqb]
        exact hb1.block q hq⟩
      rw [← hW1]
      clear hW1 t0 t1 t2 c0 c1 c2 c3 c4 f0 f1 f2 f3 f4 hb1
      refine (CM.out _).mono ?_
      rintro e w2 ⟨rfl, hb2⟩
      have ho3 : w2.ownsRow base 85 5 (.slice (some ⟨b, 0, none⟩) n cap) n ((xs.set (j * 5) (.string (markT K))).set (j * 5 + 1) (.int .i64 ((K : Int) + 1)) |>.set (j * 5 + 2) (.int .i64 ((K : Int) + 1 + 1))) := ho2.kept (row := none) ⟨hb2.os, hb2.tape, hb2.output, hb2.size, fun k hk _ => hb2.block k hk⟩ (.inr (by simp [Value.ownBlock]))
      have d3 : ∃ v, w2.cell? ⟨b, j * 5 + 3, none⟩ = some v := ⟨_, (ho3.cellAt _ (by omega)).trans (List.getElem?_eq_getElem (by rw [ho3.1]; omega))⟩
      obtain ⟨y3, d3⟩ := d3
      have e3 : w2.frozen? ⟨b, j * 5 + 3, none⟩ = false := ho3.frozenAt _
      have d4 : ∃ v, w2.cell? ⟨b, j * 5 + 4, none⟩ = some v := ⟨_, (ho3.cellAt _ (by omega)).trans (List.getElem?_eq_getElem (by rw [ho3.1]; omega))⟩
      obtain ⟨y4, d4⟩ := d4
      have e4 : w2.frozen? ⟨b, j * 5 + 4, none⟩ = false := ho3.frozenAt _
      have HO3 : Hid (w2.ownsRow base 85 5 (.slice (some ⟨b, 0, none⟩) n cap) n ((xs.set (j * 5) (.string (markT K))).set (j * 5 + 1) (.int .i64 ((K : Int) + 1)) |>.set (j * 5 + 2) (.int .i64 ((K : Int) + 1 + 1)))) := ho3
      have hbw2 := (ho3.lt b rfl).2
      have hxl := HO.out.1
      have HXL : Hid (xs.length = n * 5) := hxl
      clear ho3 ho2 hxl
      go_wp2
      go_roundw
      case rel =>
        have t3 := HO3.out.stored (j * 5 + 3) (.string (markT (K + 3)))
        have t4 := t3.1.stored (j * 5 + 4) (.int .i64 ((K : Int) + 1 + 1 + 1 + 1))
        refine ⟨j + 1, _, by omega, by go_num, ?_, t4.1, ?_, ?_⟩
        · congr 1; have := HK.out; omega
        · have G := HG.out
          exact ⟨((hb2.os.trans g1.os).trans G.os), ((hb2.tape.trans g1.tape).trans G.tape), ((hb2.output.trans g1.output).trans G.output), by have := hb2.size; have := g1.size; have := G.size; simp [World.setCell]; omega, fun q hq hne => by
            have hqb : q ≠ b := fun e => hne (by rw [e])
            rw [Below.heap_setCell _ _ _ _ hqb, Below.heap_setCell _ _ _ _ hqb]
            have h1 := G.size
            have h2 := g1.size
            exact (hb2.block q (by omega)).trans ((g1.block q (by omega) hne).trans (G.block q hq hne))⟩
        · intro i hi
          by_cases hij : i = j
          · subst hij
            rw [HME.out]
            exact rowEnt_same _ _ _ _ _ (by rw [HXL.out]; omega)
          · exact rowEnt_other (HROW.out i (by omega)) hij _ _ _ _ _
      case measure => simp [intOf]; omega
    · have hjn : j = n := by omega
      subst hjn
      have HK : Hid (K = k + 5 * j) := hK
      clear hK
      go_wp2
      go_ret
      refine ⟨ret_int (by rw [HK.out]), ⟨?_, markL_len k j, markL_wf k j hn⟩, HG.out⟩
      rw [← row_flat (xs := xs) (L := markL k j) (by rw [markL_len]; exact HO.out.1) (fun i l hl => by obtain ⟨h1, rfl⟩ := markL_at hl; exact HROW.out i h1)]
      exact HO.out
end Go.Proofs.YtfblpbihpmhgjaaDoor
