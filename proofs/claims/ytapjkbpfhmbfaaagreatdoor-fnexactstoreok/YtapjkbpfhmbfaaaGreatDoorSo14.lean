/-
  Contracts of the library's strings package at this program, laid by the kit's own command.
  The program's cloneEntries: the same entries in memory of their own, by a walk of its Go text.
  The program's FrameRead: what it reads of a log, by a walk of its Go text.
  What is whole in a log, and in one that is cut, plain; no statement of the program stands here.
  Plain: the text of done batches is whole; no statement of the program stands here.
-/
import Derived.Shelf.LaysM
import Derived.Shelf.Strconv.Clone
import Derived.Test.YtapjkbpfhmbfaaaGreatDoorProg
import Derived.Test.YtapjkbpfhmbfaaaGreatDoorSo02
import Derived.Test.YtapjkbpfhmbfaaaGreatDoorSo03
import Derived.Test.YtapjkbpfhmbfaaaGreatDoorSo05
import Derived.Test.YtapjkbpfhmbfaaaGreatDoorSo12
import Derived.Test.YtapjkbpfhmbfaaaGreatDoorSo13
import Derived.Test.YtapjkbpfhmbfaaaGreatDoorSo01
namespace Go.Proofs.YtapjkbpfhmbfaaaGreatDoor
open Go.Shelf
def Tryz.laysM316_ren : Go.Shelf.Ren := ⟨fun | 316 => 206 | n => n, fun | 9 => 9 | 3 => 3 | 4 => 4 | 37 => 142 | 0 => 0 | 127 => 227 | 5 => 5 | n => n, fun | n => n⟩
theorem Tryz.laysM316 : Go.Proofs.LaysM.n316 Tryz.prog Tryz.laysM316_ren := {
  mixed := by kernel_rfl
  f316 := Tryz.func206.trans (congrArg some (by kernel_rfl))
  t0 := Tryz.underlying0
  a0 := Tryz.isAgg0
  z0 := Tryz.sizeOf0
  v0 := Tryz.zeroValue0
  t3 := Tryz.underlying3
  a3 := Tryz.isAgg3
  z3 := Tryz.sizeOf3
  v3 := Tryz.zeroValue3
  t4 := Tryz.underlying4
  a4 := Tryz.isAgg4
  z4 := Tryz.sizeOf4
  v4 := Tryz.zeroValue4
  t9 := Tryz.underlying9
  a9 := Tryz.isAgg9
  z9 := Tryz.sizeOf9
  v9 := Tryz.zeroValue9
  t37 := Tryz.underlying142
  a37 := Tryz.isAgg142
  z37 := Tryz.sizeOf142
  v37 := Tryz.zeroValue142
  t127 := Tryz.underlying227
  a127 := Tryz.isAgg227
  z127 := Tryz.sizeOf227
  v127 := Tryz.zeroValue227
  t5 := Tryz.underlying5
  a5 := Tryz.isAgg5
  z5 := Tryz.sizeOf5
  v5 := Tryz.zeroValue5
  i0 := by kernel_rfl
  i3 := by kernel_rfl
  i4 := by kernel_rfl
  i5 := by kernel_rfl
  i9 := by kernel_rfl
  i37 := by kernel_rfl
  i127 := by kernel_rfl }
open Go.RowKit in
/-- internal/stringslite.Clone (what strings.Clone calls): "Clone returns a fresh copy of s.": THE SAME BYTES. Of what was there nothing has turned (a new row is laid, and frozen, where s is not empty). (LAID: no walk: one application.) -/
theorem Tryz.stringslite_Clone (s : ByteArray) (w : World) (hlim : s.size ≤ 281474976710656) :
    Calls Tryz.prog 206 #[.string s] w fun e w' => e = .returned (.string s) ∧ Below w.heap.size w w' := Any.stringslite_Clone Tryz.laysM316 s w hlim
end Go.Proofs.YtapjkbpfhmbfaaaGreatDoor

namespace Go.Proofs.YtapjkbpfhmbfaaaGreatDoor
open Go.RowKit
set_option maxRecDepth 100000
set_option maxHeartbeats 2000000
theorem strClone (s : ByteArray) (w : World) (h : s.size ≤ 281474976710656) :
    Calls Tryz.prog 158 #[.string s] w fun e w' => e = .returned (.string s) ∧ Below w.heap.size w w' := by
  go_enter Tryz.func158, Tryz.ntmps158
  go_wp2_with fail
  refine (Tryz.stringslite_Clone s _ h).mono ?_
  rintro e w1 ⟨rfl, hb1⟩
  go_wp2
  go_ret
  exact ⟨rfl, hb1⟩
structure BoxE (w0 w : World) (X : Nat) (s t : ByteArray) (q d n : Int) : Prop where
  low : Below X w0 w
  c0 : w.cell? ⟨X, 0, none⟩ = some (.string s)
  c1 : w.cell? ⟨X, 1, none⟩ = some (.int .i64 q)
  c2 : w.cell? ⟨X, 2, none⟩ = some (.int .i64 d)
  c3 : w.cell? ⟨X, 3, none⟩ = some (.string t)
  c4 : w.cell? ⟨X, 4, none⟩ = some (.int .i64 n)
  fr : ∀ o, w.frozen? ⟨X, o, none⟩ = false
theorem BoxE.lt {w0 w : World} {X : Nat} {s t : ByteArray} {q d n : Int} (h : BoxE w0 w X s t q d n) : X < w.heap.size := World.block_lt_of_cell? _ _ h.c0
theorem BoxE.call {w0 w w' : World} {X : Nat} {s t : ByteArray} {q d n : Int} (h : BoxE w0 w X s t q d n) (hb : Below w.heap.size w w') : BoxE w0 w' X s t q d n :=
  ⟨h.low.trans (hb.mono (Nat.le_of_lt h.lt)), cell_later hb h.c0, cell_later hb h.c1, cell_later hb h.c2, cell_later hb h.c3, cell_later hb h.c4, fun o => (hb.frozen (p := ⟨X, o, none⟩) h.lt).trans (h.fr o)⟩
theorem BoxE.drew {w0 w : World} {X : Nat} {s t : ByteArray} {q d n : Int} (h : BoxE w0 w X s t q d n) : BoxE w0 w.drew X s t q d n := h.call (Below.refl _ w).drew
theorem BoxE.store0 {w0 w : World} {X : Nat} {s t : ByteArray} {q d n : Int} (h : BoxE w0 w X s t q d n) : BoxE w0 (w.setCell ⟨X, 0, none⟩ (.string s)) X s t q d n :=
  ⟨h.low.setCell (p := ⟨X, 0, none⟩) (Nat.le_refl _) _, World.cell?_setCell_same' _ _ _ (by rw [h.c0]; rfl), by rw [World.cell?_setCell_other _ _ _ _ (by simp)]; exact h.c1, by rw [World.cell?_setCell_other _ _ _ _ (by simp)]; exact h.c2, by rw [World.cell?_setCell_other _ _ _ _ (by simp)]; exact h.c3, by rw [World.cell?_setCell_other _ _ _ _ (by simp)]; exact h.c4, fun o => by rw [World.frozen?_setCell]; exact h.fr o⟩
theorem BoxE.store3 {w0 w : World} {X : Nat} {s t : ByteArray} {q d n : Int} (h : BoxE w0 w X s t q d n) : BoxE w0 (w.setCell ⟨X, 3, none⟩ (.string t)) X s t q d n :=
  ⟨h.low.setCell (p := ⟨X, 3, none⟩) (Nat.le_refl _) _, by rw [World.cell?_setCell_other _ _ _ _ (by simp)]; exact h.c0, by rw [World.cell?_setCell_other _ _ _ _ (by simp)]; exact h.c1, by rw [World.cell?_setCell_other _ _ _ _ (by simp)]; exact h.c2, World.cell?_setCell_same' _ _ _ (by rw [h.c3]; rfl), by rw [World.cell?_setCell_other _ _ _ _ (by simp)]; exact h.c4, fun o => by rw [World.frozen?_setCell]; exact h.fr o⟩
theorem BoxE.new (w : World) (T : TypeId) (s t : ByteArray) (q d n : Int) : BoxE w (w.alloc (.cells #[.string s, .int .i64 q, .int .i64 d, .string t, .int .i64 n] T)) w.heap.size s t q d n :=
  ⟨(Below.refl _ _).alloc (Nat.le_refl _) _, by simp, by simp, by simp, by simp, by simp, fun o => World.frozen?_alloc_new w _ _ o⟩
theorem cloneE_any (a : Option Addr) (len cap : Nat) (L : List EntD) (w : World) (hL : EntsAt w a len cap L) (hbig : len ≤ 1048576) (hsm : ∀ e ∈ L, e.1.size ≤ 281474976710656 ∧ e.2.2.2.1.size ≤ 281474976710656) :
    Calls Tryz.prog 160 #[.slice a len cap] w fun e w' => e = .returned (.slice (some ⟨w.heap.size, 0, none⟩) len len) ∧ OwnE w' w.heap.size w.heap.size len len L ∧ w.heap.size < w'.heap.size ∧ Below w.heap.size w w' := by
  have HLEN : Hid (L.length = len) := hL.length
  have HENTS : Hid (∀ l ∈ L, EntW l) := hL.ents
  have HSM : Hid (∀ e ∈ L, e.1.size ≤ 281474976710656 ∧ e.2.2.2.1.size ≤ 281474976710656) := hsm
  have HL : Hid (EntsAt w a len cap L) := hL
  clear hL hsm
  obtain ⟨i0, hi, hz0, hz1, hz2⟩ := info_parts Tryz.infoEnt
  go_enter Tryz.func160, Tryz.ntmps160
  go_wp2_with (at_make; refine wpList_make_full _ rfl _ _ 33 rfl w.heap.size 87 i0 _ 5 Tryz.underlying33 hi hz0 hz1 .i64 .i64 _ _ len rfl rfl (by simp) (by simp) (by rw [hz2]; omega) (by unfold maxLen; omega) (Nat.le_refl _) ?_; intro w1 hown hgrow)
  have hb1 : Below w.heap.size w w1 := (Below.refl _ _).grown hgrow (Nat.le_refl _) (by simp)
  have hsz1 : w.heap.size < w1.heap.size := (hown.lt _ rfl).2
  go_loopw [11] (fun i wr => ∃ (k : Nat) (xs : List Value), k ≤ len ∧ i = .int .i64 k ∧ wr.ownsRow w.heap.size 87 5 (.slice (some ⟨w.heap.size, 0, none⟩) len len) len xs ∧ Below w.heap.size w wr ∧ (∀ j l, j < k → L[j]? = some l → RowEnt xs j l)) (fun i _ => len - (intOf i).toNat)
  case atStart => exact ⟨0, _, Nat.zero_le _, rfl, hown, hb1, fun j l h => absurd h (Nat.not_lt_zero _)⟩
  case round =>
    obtain ⟨k, xs, hk, rfl, ho, hb, hrow⟩ := hrel
    have HROW : Hid (∀ j l, j < k → L[j]? = some l → RowEnt xs j l) := hrow
    clear hrow hown hgrow hb1 hsz1
    by_cases hlt : k < len
    · obtain ⟨b, off, rfl, hbb⟩ := HL.out.form (by omega)
      obtain ⟨s, q, d, t, n, hg, hlw, g0, g1, g2, g3, g4⟩ := HL.out.ent hb hbb k hlt
      have HG : Hid (L[k]? = some (s, q, d, t, n)) := hg
      obtain ⟨hs, ht⟩ := HSM.out _ (List.mem_of_getElem? hg)
      simp only at hs ht
      clear hg hlw
      have HX : Hid (xs.length = len * 5) := ho.1
      have HO : Hid (wr.ownsRow w.heap.size 87 5 (.slice (some ⟨w.heap.size, 0, none⟩) len len) len xs) := ho
      have hgl := (ho.lt w.heap.size rfl).2
      clear ho
      go_wp2_with fail
      obtain ⟨X, hX⟩ : ∃ X, X = wr.heap.size := ⟨_, rfl⟩
      obtain ⟨W, hW⟩ : ∃ W, W = wr.alloc (.cells #[.string s, .int .i64 q, .int .i64 d, .string t, .int .i64 n] 87) := ⟨_, rfl⟩
      have kW : BoxE wr W X s t q d n := by rw [hW, hX]; exact BoxE.new wr 87 s t q d n
      have hgX : w.heap.size < X := by rw [hX]; exact hgl
      have HXW : Hid (X = wr.heap.size) := hX
      rw [← hW, ← hX]
      clear hW hX
      have k0 : BoxE wr W.drew X s t q d n := kW.drew
      have HMK : Hid (∀ w', BoxE wr w' X s t q d n → (w'.cell? ⟨X, 0, none⟩ = some (.string s) ∧ w'.cell? ⟨X, 3, none⟩ = some (.string t))) := fun w' kk => ⟨kk.c0, kk.c3⟩
      refine wp_region_held_drew (S := (fun w' => w'.cell? ⟨X, 0, none⟩ = some (.string s) ∧ w'.cell? ⟨X, 3, none⟩ = some (.string t))) (by kernel_rfl) (HMK.out _ k0) (fun hHeld => ?_)
      refine tkL 0 hHeld ?_; try go_frame
      refine tkL 1 hHeld ?_; try go_frame
      refine tkL 3 hHeld ?_; try go_frame
      refine tkL 4 hHeld ?_; try go_frame
      refine wpAnyH_ready (rs := [2]) (by kernel_rfl) (by simp) ?_
      refine consL rfl (fun K hK => ?_) AllReadyH.nil
      go_simp
      refine (strClone _ _ hs).mono ?_
      rintro e w1 ⟨rfl, b1⟩
      have k1 := k0.call b1
      go_wp2_with fail
      refine hK.out _ _ (HMK.out _ k1) (fun hHeld => ?_)
      clear hK K
      try go_frame
      refine tkL 6 hHeld ?_; try go_frame
      refine wpAnyH_ready (rs := [5]) (by kernel_rfl) (by simp) ?_
      refine consL rfl (fun K hK => ?_) AllReadyH.nil
      go_simp
      refine (strClone _ _ ht).mono ?_
      rintro e w2 ⟨rfl, b2⟩
      have k2 := k1.call b2
      go_wp2_with fail
      refine hK.out _ _ (HMK.out _ k2) (fun hHeld => ?_)
      clear hK K
      try go_frame
      refine wpAnyH_ready (rs := [7]) (by kernel_rfl) (by simp) ?_
      refine consL rfl (fun K hK => ?_) AllReadyH.nil
      have c3 := k2.c0
      have f3 := k2.fr 0
      go_simp
      have k3 := k2.store0
      clear c3 f3
      refine hK.out _ _ (HMK.out _ k3) (fun hHeld => ?_)
      clear hK K
      try go_frame
      refine tkL 8 hHeld ?_; try go_frame
      refine wpAnyH_ready (rs := [9]) (by kernel_rfl) (by simp) ?_
      refine consL rfl (fun K hK => ?_) AllReadyH.nil
      have c4 := k3.c3
      have f4 := k3.fr 3
      go_simp
      have k4 := k3.store3
      clear c4 f4
      refine hK.out _ _ (HMK.out _ k4) (fun hHeld => ?_)
      clear hK K
      try go_frame
      refine wpAnyH_done (by kernel_rfl) ?_ _
      obtain ⟨W4, hW4⟩ : ∃ W4, W4 = ((w2.setCell ⟨X, 0, none⟩ (.string s)).setCell ⟨X, 3, none⟩ (.string t)) := ⟨_, rfl⟩
      rw [← hW4] at k4 ⊢
      have hb2 : Below wr.heap.size wr W4 := by have := k4.low; rw [HXW.out] at this; exact this
      have z0 := k4.c0
      have z1 := k4.c1
      have z2 := k4.c2
      have z3 := k4.c3
      have z4 := k4.c4
      have hX4 := k4.lt
      have K4 : Hid (BoxE wr W4 X s t q d n) := k4
      clear hW4 k1 k2 k3 k4 k0 kW b1 b2 HMK hHeld
      have ho2 : W4.ownsRow w.heap.size 87 5 (.slice (some ⟨w.heap.size, 0, none⟩) len len) len xs := HO.out.kept (row := none) ⟨hb2.os, hb2.tape, hb2.output, hb2.size, fun k hk _ => hb2.block k hk⟩ (.inr (by simp [Value.ownBlock]))
      have c0 : ∃ v, W4.cell? ⟨w.heap.size, k * 5, none⟩ = some v := ⟨_, (ho2.cellAt _ (by omega)).trans (List.getElem?_eq_getElem (by rw [HX.out]; omega))⟩
      have c1 : ∃ v, W4.cell? ⟨w.heap.size, k * 5 + 1, none⟩ = some v := ⟨_, (ho2.cellAt _ (by omega)).trans (List.getElem?_eq_getElem (by rw [HX.out]; omega))⟩
      have c2 : ∃ v, W4.cell? ⟨w.heap.size, k * 5 + 2, none⟩ = some v := ⟨_, (ho2.cellAt _ (by omega)).trans (List.getElem?_eq_getElem (by rw [HX.out]; omega))⟩
      have c3 : ∃ v, W4.cell? ⟨w.heap.size, k * 5 + 3, none⟩ = some v := ⟨_, (ho2.cellAt _ (by omega)).trans (List.getElem?_eq_getElem (by rw [HX.out]; omega))⟩
      have c4 : ∃ v, W4.cell? ⟨w.heap.size, k * 5 + 4, none⟩ = some v := ⟨_, (ho2.cellAt _ (by omega)).trans (List.getElem?_eq_getElem (by rw [HX.out]; omega))⟩
      obtain ⟨v0, c0⟩ := c0
      obtain ⟨v1, c1⟩ := c1
      obtain ⟨v2, c2⟩ := c2
      obtain ⟨v3, c3⟩ := c3
      obtain ⟨v4, c4⟩ := c4
      have f0 : W4.frozen? ⟨w.heap.size, k * 5, none⟩ = false := ho2.frozenAt _
      have f1 : W4.frozen? ⟨w.heap.size, k * 5 + 1, none⟩ = false := ho2.frozenAt _
      have f2 : W4.frozen? ⟨w.heap.size, k * 5 + 2, none⟩ = false := ho2.frozenAt _
      have f3 : W4.frozen? ⟨w.heap.size, k * 5 + 3, none⟩ = false := ho2.frozenAt _
      have f4 : W4.frozen? ⟨w.heap.size, k * 5 + 4, none⟩ = false := ho2.frozenAt _
      have HO2 : Hid (W4.ownsRow w.heap.size 87 5 (.slice (some ⟨w.heap.size, 0, none⟩) len len) len xs) := ho2
      clear ho2
      go_wp2
      go_roundw
      case rel =>
        have t0 := HO2.out.stored (k * 5) (.string s)
        have t1 := t0.1.stored (k * 5 + 1) (.int .i64 q)
        have t2 := t1.1.stored (k * 5 + 2) (.int .i64 d)
        have t3 := t2.1.stored (k * 5 + 3) (.string t)
        have t4 := t3.1.stored (k * 5 + 4) (.int .i64 n)
        refine ⟨k + 1, _, by omega, by go_num, t4.1, ?_, ?_⟩
        · exact (((((hb.trans (hb2.mono hb.size)).setCell (p := ⟨w.heap.size, _, none⟩) (Nat.le_refl _) _).setCell (p := ⟨w.heap.size, _, none⟩) (Nat.le_refl _) _).setCell (p := ⟨w.heap.size, _, none⟩) (Nat.le_refl _) _).setCell (p := ⟨w.heap.size, _, none⟩) (Nat.le_refl _) _).setCell (p := ⟨w.heap.size, _, none⟩) (Nat.le_refl _) _
        · intro j l hj hl
          by_cases hjk : j = k
          · subst hjk
            rw [HG.out] at hl
            cases hl
            exact rowEnt_same s t q d n (by rw [HX.out]; omega)
          · exact rowEnt_other (HROW.out j l (by omega) hl) hjk _ _ _ _ _
      case measure => simp [intOf]; omega
    · go_wp2
      go_ret
      exact ⟨rfl, ⟨by rw [← row_flat (xs := xs) (L := L) (by rw [HLEN.out]; exact ho.1) (fun j l hl => HROW.out j l (by have := (List.getElem?_eq_some_iff.1 hl).1; rw [HLEN.out] at this; omega) hl)]; exact ho, HLEN.out, HENTS.out⟩, (ho.lt _ rfl).2, hb⟩
end Go.Proofs.YtapjkbpfhmbfaaaGreatDoor

namespace Go.Proofs.YtapjkbpfhmbfaaaGreatDoor
set_option maxRecDepth 100000
set_option maxHeartbeats 4000000
open Go.RowKit Go.Shelf
theorem rowsV_snoc {gs : List Nat} {P : List (List EntD)} {g : Nat} {L : List EntD} (h : gs.length = P.length) : rowsV (gs ++ [g]) (P ++ [L]) = rowsV gs P ++ [.slice (some ⟨g, 0, none⟩) L.length L.length] := by
  rw [rowsV, List.zip_append h, List.map_append]
  rfl
theorem PartsZ.push {w w' : World} {base g : Nat} {v v' : Value} {gs : List Nat} {P : List (List EntD)} {L : List EntD} (h : PartsZ w base v gs P) (hO : OwnE w base g L.length L.length L) (hnew : ∀ x ∈ gs, x ≠ g)
    (ho : w'.ownsRow base 33 1 v' (P.length + 1) (rowsV gs P ++ [.slice (some ⟨g, 0, none⟩) L.length L.length])) (hg : w.grownBy w' v.ownBlock) : PartsZ w' base v' (gs ++ [g]) (P ++ [L]) := by
  have hgO : v.ownBlock ≠ some g := rows_ne hO.owns h.row (by decide) rfl
  refine ⟨by rw [rowsV_snoc h.len, List.length_append]; exact ho, by simp [h.len], fun i q K h1 h2 => ?_, fun i j q h1 h2 => ?_⟩
  · by_cases hi : i < P.length
    · rw [List.getElem?_append_left (by rw [h.len]; exact hi)] at h1
      rw [List.getElem?_append_left hi] at h2
      exact (h.own i q K h1 h2).grown hg (fun e => h.off h1 h2 e.symm)
    · have hi2 := (List.getElem?_eq_some_iff.1 h2).1
      rw [List.length_append] at hi2
      have hi3 : i = P.length := by simp at hi2; omega
      subst hi3
      rw [List.getElem?_append_right (Nat.le_refl _)] at h2
      rw [← h.len, List.getElem?_append_right (Nat.le_refl _)] at h1
      simp at h1 h2
      subst h1
      subst h2
      exact hO.grown hg (fun e => hgO e.symm)
  · have hlt : ∀ {x : Nat}, (gs ++ [g])[x]? = some q → x < gs.length ∨ x = gs.length := fun {x} hx => by
      have := (List.getElem?_eq_some_iff.1 hx).1
      simp at this
      omega
    rcases hlt h1 with a1 | a1 <;> rcases hlt h2 with a2 | a2
    · rw [List.getElem?_append_left a1] at h1
      rw [List.getElem?_append_left a2] at h2
      exact h.nd i j q h1 h2
    · exfalso
      rw [List.getElem?_append_left a1] at h1
      subst a2
      simp at h2
      subst h2
      exact hnew _ (List.mem_of_getElem? h1) rfl
    · exfalso
      rw [List.getElem?_append_left a2] at h2
      subst a1
      simp at h1
      subst h1
      exact hnew _ (List.mem_of_getElem? h2) rfl
    · omega
theorem PartsZ.old {w : World} {base : Nat} {v : Value} {gs : List Nat} {P : List (List EntD)} (h : PartsZ w base v gs P) : ∀ x ∈ gs, x < w.heap.size := by
  intro x hx
  obtain ⟨i, hi⟩ := List.getElem?_of_mem hx
  obtain ⟨_, L, _, hL⟩ := h.at (i := i) (by rw [← h.len]; exact (List.getElem?_eq_some_iff.1 hi).1)
  exact (h.own i x L hi hL).lt.2
def RdZ (t : ByteArray) (base : Nat) (e : Ending) (w' : World) : Prop := ∃ (P : List (List EntD)) (k : Nat) (v : Value) (gs : List Nat), e = .returned (.tuple #[v, .int .i64 (k : Int)]) ∧ Whole t.data.toList P k ∧ PartsZ w' base v gs P ∧ P.length ≤ 1048576
theorem PartsZ.gro {w w' : World} {base A : Nat} {v : Value} {gs : List Nat} {P : List (List EntD)} (h : PartsZ w base v gs P) (hg : w.grownBy w' (some A)) (hA : A < base) : PartsZ w' base v gs P :=
  ⟨rowKept h.row hg hA, h.len, fun i g L h1 h2 => (h.own i g L h1 h2).grown hg (fun e => by have h3 := (h.own i g L h1 h2).lt.1; have := Option.some.inj e; omega), h.nd⟩
theorem implRd (t : ByteArray) (w : World) (ht : t.size ≤ 1048576) (hE : ErrB w.heap.size w) (hT : TabB w.heap.size w) :
    Calls Tryz.prog 151 #[.string t] w fun e w' => RdZ t (w.heap.size + 1) e w' ∧ Below w.heap.size w w' ∧ w.heap.size + 1 ≤ w'.heap.size := by
  obtain ⟨i0, hi, hz0, hz1, hz2⟩ := info_parts Tryz.infoEntS
  have HE : Hid (ErrB w.heap.size w) := hE
  have HT : Hid (TabB w.heap.size w) := hT
  have A0 : LrAt (w.alloc (.cells #[.string t, .int .i64 0] 214)) w.heap.size t 0 := LrAt.new w 214 t 0 (Nat.zero_le _)
  have hB0 : Below w.heap.size w (w.alloc (.cells #[.string t, .int .i64 0] 214)) := (Below.refl _ _).alloc (Nat.le_refl _) _
  clear hE hT
  obtain ⟨A, hA⟩ : ∃ A, A = w.heap.size := ⟨_, rfl⟩
  have HA : Hid (A = w.heap.size) := hA
  go_enter Tryz.func151, Tryz.ntmps151
  go_wp2
  try simp only [← hA]
  rw [← hA] at A0
  go_loopw [5] (fun vv wr => ∃ (P : List (List EntD)) (gs : List Nat) (k : Nat), PartsZ wr (A + 1) vv gs P ∧ WholeI t P k ∧ LrAt wr A t k ∧ P.length ≤ k ∧ Below w.heap.size w wr ∧ A + 1 ≤ wr.heap.size) (fun vv _ => t.size + 1 - lenV vv)
  case atStart => exact ⟨[], [], 0, ⟨⟨rfl, Or.inl ⟨rfl, rfl⟩⟩, rfl, fun i g L h => by simp at h, fun i j g h => by simp at h⟩, WholeI.start t, A0, Nat.le_refl _, hB0, by simp [hA]⟩
  case round =>
    clear A0 hB0 hA
    obtain ⟨P, gs, k, hP, hW, hL, hpk, hb, hz⟩ := hrel
    obtain ⟨ax, cx, rfl⟩ := hP.form
    obtain ⟨n, hn⟩ : ∃ n, n = P.length := ⟨_, rfl⟩
    have HNN : Hid (n = P.length) := hn
    rw [← hn] at hP hpk ⊢
    clear hn
    have HP : Hid (PartsZ wr (A + 1) (.slice ax n cx) gs P) := hP
    have HW : Hid (WholeI t P k) := hW
    have HB : Hid (Below w.heap.size w wr) := hb
    have HZ : Hid (A + 1 ≤ wr.heap.size) := hz
    have hkt := hL.le
    have HEW : Hid (ErrB A wr) := fun w' kk => HE.out w' (HB.out.trans (kk.mono (by have := HA.out; omega)))
    have HTW : Hid (TabB A wr) := fun w' kk => HT.out w' (HB.out.trans (kk.mono (by have := HA.out; omega)))
    clear hP hW hb hz
    go_wp2_with fail
    refine (batch_any A A k t _ hL ht (Nat.le_refl _) HEW.out HTW.out).mono ?_
    rintro e w1 ⟨he, hg1⟩
    have HP1 : Hid (PartsZ w1 (A + 1) (.slice ax n cx) gs P) := HP.out.gro hg1 (by omega)
    have HB1 : Hid (Below w.heap.size w w1) := HB.out.grown hg1 HB.out.size (fun x e => by have := HA.out; have := Option.some.inj e; omega)
    have HZ1 : Hid (A + 1 ≤ w1.heap.size) := Nat.le_trans HZ.out hg1.size
    clear hg1 hL HEW HTW
    rcases he with ⟨L, aL, m, c, hF, rfl, hEn, hm, hL1⟩ | ⟨hno, rfl, hL1⟩
    · have HWN : Hid (WholeI t (P ++ [L]) (k + (frameT L).length)) := HW.out.next hF
      have hfp := frameT_pos L
      have HF : Hid (FrAt (t.data.toList.drop k) L) := hF
      have HL1 : Hid (LrAt w1 A t (k + (frameT L).length)) := hL1
      have HML : Hid (L.length = m) := hEn.length
      have HTX : Hid (∀ e ∈ L, e.1.size ≤ 281474976710656 ∧ e.2.2.2.1.size ≤ 281474976710656) := frame_txt hF.1
      have HEN : Hid (EntsAt w1 aL m c L) := hEn
      clear hF hL1 hEn
      go_wp2_with fail
      refine (cloneE_any aL m c L _ HEN.out (by omega) HTX.out).mono ?_
      rintro e w2 ⟨rfl, hO2, hz2', hb2⟩
      have HO2 : Hid (OwnE w2 w1.heap.size w1.heap.size m m L) := hO2
      have HP2 : Hid (PartsZ w2 (A + 1) (.slice ax n cx) gs P) := HP1.out.below hb2
      have HB2 : Hid (Below w.heap.size w w2) := HB1.out.trans (hb2.mono HB1.out.size)
      have HL2 : Hid (LrAt w2 A t (k + (frameT L).length)) := HL1.out.below hb2
      have HZ2 : Hid (A + 1 ≤ w2.heap.size) := Nat.le_trans HZ1.out hb2.size
      obtain ⟨G, hG⟩ : ∃ G, G = w1.heap.size := ⟨_, rfl⟩
      have HG : Hid (G = w1.heap.size) := hG
      have HNEW : Hid (∀ x ∈ gs, x ≠ G) := fun x hx => by have := HP1.out.old x hx; have := HG.out; omega
      rw [← hG]
      clear hO2 hb2 hG hz2'
      have ka : Below w2.heap.size w2 (w2.alloc (.cells #[.slice (some ⟨G, 0, none⟩) m m] 33)) := (Below.refl _ _).alloc (Nat.le_refl _) _
      have KA : Hid (Below w2.heap.size w2 (w2.alloc (.cells #[.slice (some ⟨G, 0, none⟩) m m] 33))) := ka
      have HPA : Hid (PartsZ (w2.alloc (.cells #[.slice (some ⟨G, 0, none⟩) m m] 33)) (A + 1) (.slice ax n cx) gs P) := HP2.out.below ka
      have HRA : Hid ((w2.alloc (.cells #[.slice (some ⟨G, 0, none⟩) m m] 33)).ownsRow (A + 1) 33 1 (.slice ax n cx) n (rowsV gs P)) := by have h1 := HPA.out.row; rw [← HNN.out] at h1; exact h1
      have HBA : Hid (Below w.heap.size w (w2.alloc (.cells #[.slice (some ⟨G, 0, none⟩) m m] 33))) := HB2.out.trans (ka.mono HB2.out.size)
      have HZA : Hid (A + 1 ≤ (w2.alloc (.cells #[.slice (some ⟨G, 0, none⟩) m m] 33)).heap.size) := Nat.le_trans HZ2.out ka.size
      clear ka
      go_wp2_with (at_builtin; refine wpList_append_own _ rfl _ _ 103 rfl (A + 1) 33 i0 _ 1 24 Tryz.underlying103 hi hz0 hz1 hz2 rfl (by decide) _ _ _ rfl HRA.out ⟨w2.heap.size, 0, none⟩ 1 1 [Value.slice (some ⟨G, 0, none⟩) m m] rfl rfl (cellOne _ _ _) (by simp [Value.oneCell']) (by unfold maxLen; omega) (by omega) HZA.out ?_; intro v2 w4 hown2 hgrow2 hnil2; obtain ⟨g2, c2, rfl⟩ := row_form hown2 (fun e => by cases (hnil2.1 e).2))
      go_roundw
      case rel =>
        have hap : ∀ x, (Value.slice ax n cx).ownBlock = some x → A + 1 ≤ x := fun x e => (HRA.out.lt x e).1
        have hm' := HML.out
        have hOA : OwnE (w2.alloc (.cells #[.slice (some ⟨G, 0, none⟩) m m] 33)) (A + 1) G L.length L.length L := by
          rw [hm', HG.out]
          exact (HO2.out.below (by rw [← HG.out]; exact KA.out)).mono HZ1.out
        refine ⟨P ++ [L], gs ++ [G], k + (frameT L).length, HPA.out.push hOA HNEW.out ?_ hgrow2, HWN.out, (HL2.out.below KA.out).gro hgrow2 (fun e => by have := hap _ e; omega), ?_, HBA.out.grown hgrow2 HBA.out.size (fun x e => by have := hap x e; have := HA.out; omega), Nat.le_trans HZA.out hgrow2.size⟩
        · rw [hm', ← HNN.out]
          exact hown2
        · rw [List.length_append, ← HNN.out]
          simp
          omega
      case measure =>
        have := HL2.out.le
        simp [lenV]
        omega
    · have HFIN : Hid (Whole t.data.toList P k) := HW.out.stop hno
      have HPL : Hid (P.length ≤ 1048576) := by have := HNN.out; show _ ≤ _; omega
      clear hno
      have HMK : Hid (∀ w', Below w1.heap.size w1 w' → (w'.cell? ⟨A, 1, none⟩ = some (.int .i64 (k : Int)) ∧ A < w'.heap.size ∧ Below w1.heap.size w1 w')) := fun w' kk => ⟨cell_later kk hL1.c1, Nat.lt_of_lt_of_le hL1.lt kk.size, kk⟩
      have k0 : Below w1.heap.size w1 w1.drew := (Below.refl _ w1).drew
      go_upto_region 5 with fail
      go_region_held3 (fun w' => w'.cell? ⟨A, 1, none⟩ = some (.int .i64 (k : Int)) ∧ A < w'.heap.size ∧ Below w1.heap.size w1 w') (with_reducible exact HMK.out _ k0) (fail)
      all_goals
        go_wp2
        exact bodyPost_ret (v := .tuple #[.slice ax n cx, .int .i64 (k : Int)]) (by simp [results, Tryz.results151, go_sem]) rfl ⟨⟨P, k, _, gs, rfl, HFIN.out, by rw [← HA.out]; exact HP1.out.below k0, HPL.out⟩, HB1.out.drew, by rw [← HA.out]; exact HZ1.out⟩
end Go.Proofs.YtapjkbpfhmbfaaaGreatDoor

namespace Go.Proofs.YtapjkbpfhmbfaaaGreatDoor
open Go.RowKit
def szP : List (List EntD) → Nat
  | [] => 0
  | L :: r => (frameT L).length + szP r
def txP : List (List EntD) → List UInt8
  | [] => []
  | L :: r => frameT L ++ txP r
theorem txP_len : ∀ P, (txP P).length = szP P
  | [] => rfl
  | L :: r => by rw [txP, szP, List.length_append, txP_len r]
theorem txP_append : ∀ (A B : List (List EntD)), txP (A ++ B) = txP A ++ txP B
  | [], B => rfl
  | L :: A, B => by rw [List.cons_append, txP, txP, txP_append A B, List.append_assoc]
theorem txP_next {P : List (List EntD)} {i : Nat} {L : List EntD} (h : P[i]? = some L) : txP (P.take (i + 1)) = txP (P.take i) ++ frameT L := by
  rw [List.take_add_one, h, Option.toList_some, txP_append, txP, txP, List.append_nil]
theorem szP_next {P : List (List EntD)} {i : Nat} {L : List EntD} (h : P[i]? = some L) : szP (P.take (i + 1)) = szP (P.take i) + (frameT L).length := by
  rw [← txP_len, txP_next h, List.length_append, txP_len]
theorem whole_done {l : List UInt8} {P : List (List EntD)} {e : Nat} (h : Whole l P e) : ∀ L ∈ P, doneB L = true := by
  induction h with
  | none _ => intro L hL; simp at hL
  | one hd _ ih =>
    intro L hL
    rcases List.mem_cons.1 hL with rfl | h1
    · exact hd
    · exact ih L h1
theorem whole_txt {l : List UInt8} {P : List (List EntD)} {e : Nat} (h : Whole l P e) : l.take e = txP P ∧ e = szP P := by
  induction h with
  | none _ => exact ⟨rfl, rfl⟩
  | @one L r Ls k hd hr ih =>
    refine ⟨?_, by rw [szP, ← ih.2]⟩
    rw [List.take_append, List.take_of_length_le (by omega), txP, show (frameT L).length + k - (frameT L).length = k by omega, ih.1]
theorem szP_le {P : List (List EntD)} {i : Nat} : szP (P.take i) ≤ szP P := by
  have h := txP_append (P.take i) (P.drop i)
  rw [List.take_append_drop] at h
  rw [← txP_len, ← txP_len, h, List.length_append]
  omega
theorem whole_nil : Whole [] [] 0 := Whole.none no_frame_nil
end Go.Proofs.YtapjkbpfhmbfaaaGreatDoor

namespace Go.Proofs.YtapjkbpfhmbfaaaGreatDoor
open Go.RowKit
theorem whole_of : ∀ (P : List (List EntD)), (∀ L ∈ P, doneB L = true) → Whole (txP P) P (szP P)
  | [], _ => whole_nil
  | L :: P, h => by
    have ih := whole_of P (fun M hM => h M (List.mem_cons_of_mem _ hM))
    exact Whole.one (h L (by simp)) ih
end Go.Proofs.YtapjkbpfhmbfaaaGreatDoor
