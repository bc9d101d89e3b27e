/-
  The program's cloneEntries: the same entries in memory of their own, by a walk of its Go text.
-/
import Derived.Test.YtfblpbihpmhgjaaDoorBp39
import Derived.Test.YtfblpbihpmhgjaaDoorBp40
import Derived.Test.YtfblpbihpmhgjaaDoorBp19
import Derived.Test.YtfblpbihpmhgjaaDoorBp41
namespace Go.Proofs.YtfblpbihpmhgjaaDoor
open Go.RowKit

theorem strClone (s : ByteArray) (w : World) (h : s.size ≤ 281474976710656) :
    Calls Tryd.prog 107 #[.string s] w fun e w' => e = .returned (.string s) ∧ Below w.heap.size w w' := by
  go_enter Tryd.func107, Tryd.ntmps107
  go_wp2_with fail
  refine (Tryd.stringslite_Clone s _ h).mono ?_
  rintro e w1 ⟨rfl, hb1⟩
  go_wp2
  go_ret
  exact ⟨rfl, hb1⟩

/-- A box of an entry, in a world in which all below it is as it was. -/
structure BoxE (w0 w : World) (X : Nat) (s t : ByteArray) (q d n : Int) : Prop where
  low : Below X w0 w
  c0 : w.cell? ⟨X, 0, none⟩ = some (.string s)
  c1 : w.cell? ⟨X, 1, none⟩ = some (.int .i64 q)
  c2 : w.cell? ⟨X, 2, none⟩ = some (.int .i64 d)
  c3 : w.cell? ⟨X, 3, none⟩ = some (.string t)
  c4 : w.cell? ⟨X, 4, none⟩ = some (.int .i64 n)
  fr : ∀ o, w.frozen? ⟨X, o, none⟩ = false
theorem BoxE.lt {w0 w : World} {X : Nat} {s t : ByteArray} {q d n : Int} (h : BoxE w0 w X s t q d n) : X < w.heap.size := World.block_lt_of_cell? _ _ h.c0
theorem BoxE.call {w0 w w' : World} {X : Nat} {s t : ByteArray} {q d n : Int} (h : BoxE w0 w X s t q d n) (hb : Below w.heap.size w w') : BoxE w0 w' X s t q d n :=
  ⟨h.low.trans (hb.mono (Nat.le_of_lt h.lt)), cell_later hb h.c0, cell_later hb h.c1, cell_later hb h.c2, cell_later hb h.c3, cell_later hb h.c4, fun o => (hb.frozen (p := ⟨X, o, none⟩) h.lt).trans (h.fr o)⟩
theorem BoxE.drew {w0 w : World} {X : Nat} {s t : ByteArray} {q d n : Int} (h : BoxE w0 w X s t q d n) : BoxE w0 w.drew X s t q d n := h.call (Below.refl _ w).drew
theorem BoxE.store0 {w0 w : World} {X : Nat} {s t : ByteArray} {q d n : Int} (h : BoxE w0 w X s t q d n) : BoxE w0 (w.setCell ⟨X, 0, none⟩ (.string s)) X s t q d n :=
  ⟨h.low.setCell (p := ⟨X, 0, none⟩) (Nat.le_refl _) _, World.cell?_setCell_same' _ _ _ (by rw [h.c0]; rfl), by rw [World.cell?_setCell_other _ _ _ _ (by simp)]; exact h.c1, by rw [World.cell?_setCell_other _ _ _ _ (by simp)]; exact h.c2, by rw [World.cell?_setCell_other _ _ _ _ (by simp)]; exact h.c3, by rw [World.cell?_setCell_other _ _ _ _ (by simp)]; exact h.c4, fun o => by rw [World.frozen?_setCell]; exact h.fr o⟩
theorem BoxE.store3 {w0 w : World} {X : Nat} {s t : ByteArray} {q d n : Int} (h : BoxE w0 w X s t q d n) : BoxE w0 (w.setCell ⟨X, 3, none⟩ (.string t)) X s t q d n :=
  ⟨h.low.setCell (p := ⟨X, 3, none⟩) (Nat.le_refl _) _, by rw [World.cell?_setCell_other _ _ _ _ (by simp)]; exact h.c0, by rw [World.cell?_setCell_other _ _ _ _ (by simp)]; exact h.c1, by rw [World.cell?_setCell_other _ _ _ _ (by simp)]; exact h.c2, World.cell?_setCell_same' _ _ _ (by rw [h.c3]; rfl), by rw [World.cell?_setCell_other _ _ _ _ (by simp)]; exact h.c4, fun o => by rw [World.frozen?_setCell]; exact h.fr o⟩
theorem BoxE.new (w : World) (T : TypeId) (s t : ByteArray) (q d n : Int) : BoxE w (w.alloc (.cells #[.string s, .int .i64 q, .int .i64 d, .string t, .int .i64 n] T)) w.heap.size s t q d n :=
  ⟨(Below.refl _ _).alloc (Nat.le_refl _) _, by simp, by simp, by simp, by simp, by simp, fun o => World.frozen?_alloc_new w _ _ o⟩

set_option maxRecDepth 100000 in
set_option maxHeartbeats 2000000 in
theorem cloneE_any (a : Option Addr) (len cap : Nat) (L : List EntD) (w : World) (hL : EntsAt w a len cap L) (hbig : len ≤ 1048576) (hsm : ∀ e ∈ L, e.1.size ≤ 281474976710656 ∧ e.2.2.2.1.size ≤ 281474976710656) :
    Calls Tryd.prog 69 #[.slice a len cap] w fun e w' => e = .returned (.slice (some ⟨w.heap.size, 0, none⟩) len len) ∧ OwnE w' w.heap.size w.heap.size len len L ∧ w.heap.size < w'.heap.size ∧ Below w.heap.size w w' := by
  have HLEN : Hid (L.length = len) := hL.length
  have HENTS : Hid (∀ l ∈ L, EntW l) := hL.ents
  have HSM : Hid (∀ e ∈ L, e.1.size ≤ 281474976710656 ∧ e.2.2.2.1.size ≤ 281474976710656) := hsm
  have HL : Hid (EntsAt w a len cap L) := hL
  clear hL hsm
  obtain ⟨i0, hi, hz0, hz1, hz2⟩ := info_parts Tryd.infoEnt
  go_enter Tryd.func69, Tryd.ntmps69
  go_wp2_with (at_make; refine wpList_make_full _ rfl _ _ 40 rfl w.heap.size 85 i0 _ 5 Tryd.underlying40 hi hz0 hz1 .i64 .i64 _ _ len rfl rfl (by simp) (by simp) (by rw [hz2]; omega) (by unfold maxLen; omega) (Nat.le_refl _) ?_; intro w1 hown hgrow)
  have hb1 : Below w.heap.size w w1 := (Below.refl _ _).grown hgrow (Nat.le_refl _) (by simp)
  have hsz1 : w.heap.size < w1.heap.size := (hown.lt _ rfl).2
  go_loopw [11] (fun i wr => ∃ (k : Nat) (xs : List Value), k ≤ len ∧ i = .int .i64 k ∧ wr.ownsRow w.heap.size 85 5 (.slice (some ⟨w.heap.size, 0, none⟩) len len) len xs ∧ Below w.heap.size w wr ∧ (∀ j l, j < k → L[j]? = some l → RowEnt xs j l)) (fun i _ => len - (intOf i).toNat)
  case atStart => exact ⟨0, _, Nat.zero_le _, rfl, hown, hb1, fun j l h => absurd h (Nat.not_lt_zero _)⟩
  case round =>
    obtain ⟨k, xs, hk, rfl, ho, hb, hrow⟩ := hrel
    have HROW : Hid (∀ j l, j < k → L[j]? = some l → RowEnt xs j l) := hrow
    clear hrow hown hgrow hb1 hsz1
    by_cases hlt : k < len
    · obtain ⟨b, off, rfl, hbb⟩ := HL.out.form (by omega)
      obtain ⟨s, q, d, t, n, hg, hlw, g0, g1, g2, g3, g4⟩ := HL.out.ent hb hbb k hlt
      have HG : Hid (L[k]? = some (s, q, d, t, n)) := hg
      obtain ⟨hs, ht⟩ := HSM.out _ (List.mem_of_getElem? hg)
      simp only at hs ht
      clear hg hlw
      have HX : Hid (xs.length = len * 5) := ho.1
      have HO : Hid (wr.ownsRow w.heap.size 85 5 (.slice (some ⟨w.heap.size, 0, none⟩) len len) len xs) := ho
      have hgl := (ho.lt w.heap.size rfl).2
      clear ho
      go_wp2_with fail
      obtain ⟨X, hX⟩ : ∃ X, X = wr.heap.size := ⟨_, rfl⟩
      obtain ⟨W, hW⟩ : ∃ W, W = wr.alloc (.cells #[.string s, .int .i64 q, .int .i64 d, .string t, .int .i64 n] 85) := ⟨_, rfl⟩
      have kW : BoxE wr W X s t q d n := by rw [hW, hX]; exact BoxE.new wr 85 s t q d n
      have hgX : w.heap.size < X := by rw [hX]; exact hgl
      have HXW : Hid (X = wr.heap.size) := hX
      rw [← hW, ← hX]
      clear hW hX
      have k0 : BoxE wr W.drew X s t q d n := kW.drew
      have HMK : Hid (∀ w', BoxE wr w' X s t q d n → (w'.cell? ⟨X, 0, none⟩ = some (.string s) ∧ w'.cell? ⟨X, 3, none⟩ = some (.string t))) := fun w' kk => ⟨kk.c0, kk.c3⟩
      refine wp_region_held_drew (S := (fun w' => w'.cell? ⟨X, 0, none⟩ = some (.string s) ∧ w'.cell? ⟨X, 3, none⟩ = some (.string t))) (by kernel_rfl) (HMK.out _ k0) (fun hHeld => ?_)
      refine wpAnyH_takeL (i := 0) (v := ?_) rfl (by kernel_rfl) (by kernel_rfl) (by kernel_rfl) (fun _ _ _ h => h) (Or.inl ⟨by rfl, ?_⟩) hHeld ?_
      rotate_left
      · (intro w hSw; (try dsimp only at hSw); go_simp; try with_reducible rfl)
      try go_frame
      refine wpAnyH_takeL (i := 1) (v := ?_) rfl (by kernel_rfl) (by kernel_rfl) (by kernel_rfl) (fun _ _ _ h => h) (Or.inl ⟨by rfl, ?_⟩) hHeld ?_
      rotate_left
      · (intro w hSw; (try dsimp only at hSw); go_simp; try with_reducible rfl)
      try go_frame
      refine wpAnyH_takeL (i := 3) (v := ?_) rfl (by kernel_rfl) (by kernel_rfl) (by kernel_rfl) (fun _ _ _ h => h) (Or.inl ⟨by rfl, ?_⟩) hHeld ?_
      rotate_left
      · (intro w hSw; (try dsimp only at hSw); go_simp; try with_reducible rfl)
      try go_frame
      refine wpAnyH_takeL (i := 4) (v := ?_) rfl (by kernel_rfl) (by kernel_rfl) (by kernel_rfl) (fun _ _ _ h => h) (Or.inl ⟨by rfl, ?_⟩) hHeld ?_
      rotate_left
      · (intro w hSw; (try dsimp only at hSw); go_simp; try with_reducible rfl)
      try go_frame
      refine wpAnyH_ready (rs := [2]) (by kernel_rfl) (by simp) ?_
      refine consL rfl (fun K hK => ?_) AllReadyH.nil
      go_simp
      refine (strClone _ _ hs).mono ?_
      rintro e w1 ⟨rfl, b1⟩
      have k1 := k0.call b1
      go_wp2_with fail
      refine hK.out _ _ (HMK.out _ k1) (fun hHeld => ?_)
      clear hK K
      try go_frame
      refine wpAnyH_takeL (i := 6) (v := ?_) rfl (by kernel_rfl) (by kernel_rfl) (by kernel_rfl) (fun _ _ _ h => h) (Or.inl ⟨by rfl, ?_⟩) hHeld ?_
      rotate_left
      · (intro w hSw; (try dsimp only at hSw); go_simp; try with_reducible rfl)
      try go_frame
      refine wpAnyH_ready (rs := [5]) (by kernel_rfl) (by simp) ?_
      refine consL rfl (fun K hK => ?_) AllReadyH.nil
      go_simp
      refine (strClone _ _ ht).mono ?_
      rintro e w2 ⟨rfl, b2⟩
      have k2 := k1.call b2
      go_wp2_with fail
      refine hK.out _ _ (HMK.out _ k2) (fun hHeld => ?_)
      clear hK K
      try go_frame
      refine wpAnyH_ready (rs := [7]) (by kernel_rfl) (by simp) ?_
      refine consL rfl (fun K hK => ?_) AllReadyH.nil
      have c3 := k2.c0
      have f3 := k2.fr 0
      go_simp
      have k3 := k2.store0
      clear c3 f3
      refine hK.out _ _ (HMK.out _ k3) (fun hHeld => ?_)
      clear hK K
      try go_frame
      refine wpAnyH_takeL (i := 8) (v := ?_) rfl (by kernel_rfl) (by kernel_rfl) (by kernel_rfl) (fun _ _ _ h => h) (Or.inl ⟨by rfl, ?_⟩) hHeld ?_
      rotate_left
      · (intro w hSw; (try dsimp only at hSw); go_simp; try with_reducible rfl)
      try go_frame
      refine wpAnyH_ready (rs := [9]) (by kernel_rfl) (by simp) ?_
      refine consL rfl (fun K hK => ?_) AllReadyH.nil
      have c4 := k3.c3
      have f4 := k3.fr 3
      go_simp
      have k4 := k3.store3
      clear c4 f4
      refine hK.out _ _ (HMK.out _ k4) (fun hHeld => ?_)
      clear hK K
      try go_frame
      refine wpAnyH_done (by kernel_rfl) ?_ _
      obtain ⟨W4, hW4⟩ : ∃ W4, W4 = ((w2.setCell ⟨X, 0, none⟩ (.string s)).setCell ⟨X, 3, none⟩ (.string t)) := ⟨_, rfl⟩
      rw [← hW4] at k4 ⊢
      have hb2 : Below wr.heap.size wr W4 := by have := k4.low; rw [HXW.out] at this; exact this
      have z0 := k4.c0
      have z1 := k4.c1
      have z2 := k4.c2
      have z3 := k4.c3
      have z4 := k4.c4
      have hX4 := k4.lt
      have K4 : Hid (BoxE wr W4 X s t q d n) := k4
      clear hW4 k1 k2 k3 k4 k0 kW b1 b2 HMK hHeld
      have ho2 : W4.ownsRow w.heap.size 85 5 (.slice (some ⟨w.heap.size, 0, none⟩) len len) len xs := HO.out.kept (row := none) ⟨hb2.os, hb2.tape, hb2.output, hb2.size, fun k hk _ => hb2.block k hk⟩ (.inr (by simp [Value.ownBlock]))
      have c0 : ∃ v, W4.cell? ⟨w.heap.size, k * 5, none⟩ = some v := ⟨_, (ho2.cellAt _ (by omega)).trans (List.getElem?_eq_getElem (by rw [HX.out]; omega))⟩
      have c1 : ∃ v, W4.cell? ⟨w.heap.size, k * 5 + 1, none⟩ = some v := ⟨_, (ho2.cellAt _ (by omega)).trans (List.getElem?_eq_getElem (by rw [HX.out]; omega))⟩
      have c2 : ∃ v, W4.cell? ⟨w.heap.size, k * 5 + 2, none⟩ = some v := ⟨_, (ho2.cellAt _ (by omega)).trans (List.getElem?_eq_getElem (by rw [HX.out]; omega))⟩
      have c3 : ∃ v, W4.cell? ⟨w.heap.size, k * 5 + 3, none⟩ = some v := ⟨_, (ho2.cellAt _ (by omega)).trans (List.getElem?_eq_getElem (by rw [HX.out]; omega))⟩
      have c4 : ∃ v, W4.cell? ⟨w.heap.size, k * 5 + 4, none⟩ = some v := ⟨_, (ho2.cellAt _ (by omega)).trans (List.getElem?_eq_getElem (by rw [HX.out]; omega))⟩
      obtain ⟨v0, c0⟩ := c0
      obtain ⟨v1, c1⟩ := c1
      obtain ⟨v2, c2⟩ := c2
      obtain ⟨v3, c3⟩ := c3
      obtain ⟨v4, c4⟩ := c4
      have f0 : W4.frozen? ⟨w.heap.size, k * 5, none⟩ = false := ho2.frozenAt _
      have f1 : W4.frozen? ⟨w.heap.size, k * 5 + 1, none⟩ = false := ho2.frozenAt _
      have f2 : W4.frozen? ⟨w.heap.size, k * 5 + 2, none⟩ = false := ho2.frozenAt _
      have f3 : W4.frozen? ⟨w.heap.size, k * 5 + 3, none⟩ = false := ho2.frozenAt _
      have f4 : W4.frozen? ⟨w.heap.size, k * 5 + 4, none⟩ = false := ho2.frozenAt _
      have HO2 : Hid (W4.ownsRow w.heap.size 85 5 (.slice (some ⟨w.heap.size, 0, none⟩) len len) len xs) := ho2
      clear ho2
      go_wp2
      go_roundw
      case rel =>
        have t0 := HO2.out.stored (k * 5) (.string s)
        have t1 := t0.1.stored (k * 5 + 1) (.int .i64 q)
        have t2 := t1.1.stored (k * 5 + 2) (.int .i64 d)
        have t3 := t2.1.stored (k * 5 + 3) (.string t)
        have t4 := t3.1.stored (k * 5 + 4) (.int .i64 n)
        refine ⟨k + 1, _, by omega, by go_num, t4.1, ?_, ?_⟩
        · exact (((((hb.trans (hb2.mono hb.size)).setCell (p := ⟨w.heap.size, _, none⟩) (Nat.le_refl _) _).setCell (p := ⟨w.heap.size, _, none⟩) (Nat.le_refl _) _).setCell (p := ⟨w.heap.size, _, none⟩) (Nat.le_refl _) _).setCell (p := ⟨w.heap.size, _, none⟩) (Nat.le_refl _) _).setCell (p := ⟨w.heap.size, _, none⟩) (Nat.le_refl _) _
        · intro j l hj hl
          by_cases hjk : j = k
          · subst hjk
            rw [HG.out] at hl
            cases hl
            exact rowEnt_same s t q d n (by rw [HX.out]; omega)
          · exact rowEnt_other (HROW.out j l (by omega) hl) hjk _ _ _ _ _
      case measure => simp [intOf]; omega
    · go_wp2
      go_ret
      exact ⟨rfl, ⟨by rw [← row_flat (xs := xs) (L := L) (by rw [HLEN.out]; exact ho.1) (fun j l hl => HROW.out j l (by have := (List.getElem?_eq_some_iff.1 hl).1; rw [HLEN.out] at this; omega) hl)]; exact ho, HLEN.out, HENTS.out⟩, (ho.lt _ rfl).2, hb⟩
end Go.Proofs.YtfblpbihpmhgjaaDoor
