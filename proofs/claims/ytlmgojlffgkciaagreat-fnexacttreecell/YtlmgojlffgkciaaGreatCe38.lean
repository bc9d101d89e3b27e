/-
  Where the library's slices.BinarySearchFunc finds an entry's place in entries in order, by a walk of its Go text.
  What the program's placeIn and RunFind answer at every run, by walks of their Go text.
  What a search finds, in memory of its own.
-/
import Derived.Deep.LoopGhost
import Derived.Test.YtlmgojlffgkciaaGreatCe00
import Derived.Test.YtlmgojlffgkciaaGreatCe01
import Derived.Test.YtlmgojlffgkciaaGreatCe04
import Derived.Test.YtlmgojlffgkciaaGreatCe05
import Derived.Test.YtlmgojlffgkciaaGreatCe37
import Derived.Test.YtlmgojlffgkciaaGreatCe35
import Derived.Test.YtlmgojlffgkciaaGreatCe28
namespace Go.Proofs.YtlmgojlffgkciaaGreat
open Go.RowKit
set_option maxRecDepth 100000
set_option maxHeartbeats 1000000
def Parted (L : List EntD) (key : ByteArray) (q : Int) (i j : Nat) : Prop := (∀ p e, L[p]? = some e → p < i → lessB e.1 e.2.1 key q = true) ∧ (∀ p e, L[p]? = some e → j ≤ p → lessB e.1 e.2.1 key q = false)
theorem parted_start (L : List EntD) (key : ByteArray) (q : Int) (n : Nat) (h : L.length = n) : Parted L key q 0 n :=
  ⟨fun p e _ hp => absurd hp (Nat.not_lt_zero _), fun p e he hp => by have := (List.getElem?_eq_some_iff.1 he).1; omega⟩
theorem parted_up {L : List EntD} {key : ByteArray} {q : Int} {i j h : Nat} (hr : rightB L = true) (P : Parted L key q i j) {e : EntD} (he : L[h]? = some e) (hl : lessB e.1 e.2.1 key q = true) : Parted L key q (h + 1) j :=
  ⟨fun p d hd hp => by
    by_cases e1 : p = h
    · subst e1; rw [he] at hd; cases hd; exact hl
    · exact lessB_trans (right_less hr (by omega) hd he) hl, P.2⟩
theorem parted_down {L : List EntD} {key : ByteArray} {q : Int} {i j h : Nat} (hr : rightB L = true) (P : Parted L key q i j) {e : EntD} (he : L[h]? = some e) (hl : lessB e.1 e.2.1 key q = false) : Parted L key q i h :=
  ⟨P.1, fun p d hd hp => by
    by_cases e1 : p = h
    · subst e1; rw [he] at hd; cases hd; exact hl
    · cases hx : lessB d.1 d.2.1 key q with
      | false => rfl
      | true => rw [lessB_trans (right_less hr (by omega) he hd) hx] at hl; cases hl⟩
def SearchR (L : List EntD) (key : ByteArray) (q : Int) (len : Nat) (w : World) (e : Ending) (w' : World) : Prop :=
  ∃ (i : Nat) (B : Bool), e = .returned (.tuple #[.int .i64 (i : Int), .bool B]) ∧ i ≤ len ∧ Parted L key q i i ∧ Below w.heap.size w w'
theorem searchF (b off len cap : Nat) (L : List EntD) (key t : ByteArray) (q d n : Int) (w : World) (hL : EntsAt w (some ⟨b, off, none⟩) len cap L) (hr : rightB L = true) (hlen : len ≤ 1048576) (hlen1 : 1 ≤ len) :
    Calls Tryz.prog 172 #[.slice (some ⟨b, off, none⟩) len cap, .agg #[.string key, .int .i64 q, .int .i64 d, .string t, .int .i64 n], .func (.func 145) #[] #[]] w (SearchR L key q len w) := by
  have HLEN : Hid (L.length = len) := hL.length
  have HR : Hid (rightB L = true) := hr
  have hbw := (hL.lies _ rfl (by omega)).1
  simp only at hbw
  obtain ⟨X, hX⟩ : ∃ X, X = w.heap.size := ⟨_, rfl⟩
  obtain ⟨W, hW⟩ : ∃ W, W = w.alloc (.cells #[.string key, .int .i64 q, .int .i64 d, .string t, .int .i64 n] 78) := ⟨_, rfl⟩
  have x0 : W.cell? ⟨X, 0, none⟩ = some (.string key) := by rw [hW, hX]; simp
  have x1 : W.cell? ⟨X, 1, none⟩ = some (.int .i64 q) := by rw [hW, hX]; simp
  have x2 : W.cell? ⟨X, 2, none⟩ = some (.int .i64 d) := by rw [hW, hX]; simp
  have x3 : W.cell? ⟨X, 3, none⟩ = some (.string t) := by rw [hW, hX]; simp
  have x4 : W.cell? ⟨X, 4, none⟩ = some (.int .i64 n) := by rw [hW, hX]; simp
  have kW : Below w.heap.size w W := by rw [hW]; exact (Below.refl _ _).alloc (Nat.le_refl _) _
  have HL : Hid (EntsAt W (some ⟨b, off, none⟩) len cap L) := hL.keep kW
  have hbW : b < W.heap.size := Nat.lt_of_lt_of_le hbw kW.size
  have HKW : Hid (Below w.heap.size w W) := kW
  go_enter Tryz.func172, Tryz.ntmps172
  go_wp2
  rw [← hW, ← hX]
  clear hW hX kW hL hr hbw
  go_loopw [9, 10] (fun iv jv wr => ∃ i j : Nat, iv = .int .i64 i ∧ jv = .int .i64 j ∧ i ≤ j ∧ j ≤ len ∧ Below W.heap.size W wr ∧ Parted L key q i j) (fun iv jv _ => (intOf jv).toNat - (intOf iv).toNat)
  case atStart => exact ⟨0, len, rfl, rfl, Nat.zero_le _, Nat.le_refl _, Below.refl _ _, parted_start _ _ _ _ HLEN.out⟩
  case round =>
    obtain ⟨i, j, rfl, rfl, hij, hjl, hb, hP⟩ := hrel
    have HP : Hid (Parted L key q i j) := hP
    clear hP
    by_cases hlt : i < j
    · obtain ⟨H, hH⟩ : ∃ H, H = (i + j) / 2 := ⟨_, rfl⟩
      have hH1 : i ≤ H := by omega
      have hH2 : H < j := by omega
      have eH : ((i : Int) + (j : Int)) / 2 = (H : Int) := by omega
      obtain ⟨s', q', d', t', n', hg', hlw', g0', g1', g2', g3', g4'⟩ := HL.out.ent hb hbW H (by omega)
      have HG : Hid (L[H]? = some (s', q', d', t', n')) := hg'
      clear hg' hlw' hH
      obtain ⟨O, hO⟩ : ∃ O, O = ordI s' q' key q := ⟨_, rfl⟩
      have CO : Hid (∀ w, Calls Tryz.prog 145 #[.agg #[.string s', .int .i64 q', .int .i64 d', .string t', .int .i64 n'], .agg #[.string key, .int .i64 q, .int .i64 d, .string t, .int .i64 n]] w fun e w' => e = .returned (.int .i64 O) ∧ Below w.heap.size w w') := by rw [hO]; exact fun w => implOrder s' t' key t q' d' n' q d n w
      have HO : Hid (decide (O < 0) = lessB s' q' key q) := by show decide (O < 0) = _; rw [hO]; exact order_less _ _ _ _
      clear hO
      have hHl : (H : Int) < (len : Int) := by omega
      go_wp2_with fail
      have y0 := cell_later hb x0
      have y1 := cell_later hb x1
      have y2 := cell_later hb x2
      have y3 := cell_later hb x3
      have y4 := cell_later hb x4
      have k0 : Below wr.heap.size wr wr.drew := (Below.refl _ wr).drew
      have HMK : Hid (∀ w', Below wr.heap.size wr w' → (w'.cell? ⟨X, 0, none⟩ = some (.string key) ∧ w'.cell? ⟨X, 1, none⟩ = some (.int .i64 q) ∧ w'.cell? ⟨X, 2, none⟩ = some (.int .i64 d) ∧ w'.cell? ⟨X, 3, none⟩ = some (.string t) ∧ w'.cell? ⟨X, 4, none⟩ = some (.int .i64 n) ∧ X < w'.heap.size ∧ w'.cell? ⟨b, off + H * 5, none⟩ = some (.string s') ∧ w'.cell? ⟨b, off + H * 5 + 1, none⟩ = some (.int .i64 q') ∧ w'.cell? ⟨b, off + H * 5 + 2, none⟩ = some (.int .i64 d') ∧ w'.cell? ⟨b, off + H * 5 + 3, none⟩ = some (.string t') ∧ w'.cell? ⟨b, off + H * 5 + 4, none⟩ = some (.int .i64 n') ∧ b < w'.heap.size)) := fun w' kk => ⟨cell_later kk y0, cell_later kk y1, cell_later kk y2, cell_later kk y3, cell_later kk y4, World.block_lt_of_cell? _ _ (cell_later kk y0), cell_later kk g0', cell_later kk g1', cell_later kk g2', cell_later kk g3', cell_later kk g4', World.block_lt_of_cell? _ _ (cell_later kk g0')⟩
      refine wp_region_held_drew (S := (fun w' => w'.cell? ⟨X, 0, none⟩ = some (.string key) ∧ w'.cell? ⟨X, 1, none⟩ = some (.int .i64 q) ∧ w'.cell? ⟨X, 2, none⟩ = some (.int .i64 d) ∧ w'.cell? ⟨X, 3, none⟩ = some (.string t) ∧ w'.cell? ⟨X, 4, none⟩ = some (.int .i64 n) ∧ X < w'.heap.size ∧ w'.cell? ⟨b, off + H * 5, none⟩ = some (.string s') ∧ w'.cell? ⟨b, off + H * 5 + 1, none⟩ = some (.int .i64 q') ∧ w'.cell? ⟨b, off + H * 5 + 2, none⟩ = some (.int .i64 d') ∧ w'.cell? ⟨b, off + H * 5 + 3, none⟩ = some (.string t') ∧ w'.cell? ⟨b, off + H * 5 + 4, none⟩ = some (.int .i64 n') ∧ b < w'.heap.size)) (by kernel_rfl) (HMK.out _ k0) (fun hHeld => ?_)
      refine tkL 0 hHeld ?_; try go_frame
      refine tkL 1 hHeld ?_; try go_frame
      refine tkL 2 hHeld ?_; try go_frame
      refine tkL 3 hHeld ?_; try go_frame
      refine tkL 4 hHeld ?_; try go_frame
      refine tkL 5 hHeld ?_; try go_frame
      refine wpAnyH_ready (rs := [6]) (by kernel_rfl) (by simp) ?_
      refine consL rfl (fun K hK => ?_) AllReadyH.nil
      go_simp
      refine (CO.out _).mono ?_
      rintro e w1 ⟨rfl, b1⟩
      have k1 : Below wr.heap.size wr w1 := k0.trans (b1.mono k0.size)
      go_wp2_with fail
      refine hK.out _ _ (HMK.out _ k1) (fun hHeld => ?_)
      clear hK K
      try go_frame
      refine tkL 7 hHeld ?_; try go_frame
      refine wpAnyH_done (by kernel_rfl) ?_ _
      by_cases hlo : O < 0
      · have HLs : Hid (lessB s' q' key q = true) := by show lessB s' q' key q = true; rw [← HO.out]; exact decide_eq_true hlo
        go_wp2
        go_roundw
        case rel => exact ⟨H + 1, j, by go_num, rfl, by omega, hjl, hb.trans (k1.mono hb.size), parted_up HR.out HP.out HG.out HLs.out⟩
        case measure => simp [intOf]; omega
      · have HLs : Hid (lessB s' q' key q = false) := by show lessB s' q' key q = false; rw [← HO.out]; exact decide_eq_false hlo
        go_wp2
        go_roundw
        case rel => exact ⟨i, H, rfl, rfl, hH1, by omega, hb.trans (k1.mono hb.size), parted_down HR.out HP.out HG.out HLs.out⟩
        case measure => simp [intOf]; omega
    · have hije : i = j := by omega
      subst hije
      by_cases hil : i < len
      · obtain ⟨s', q', d', t', n', hg', hlw', g0', g1', g2', g3', g4'⟩ := HL.out.ent hb hbW i hil
        clear hg' hlw'
        obtain ⟨O, hO⟩ : ∃ O, O = ordI s' q' key q := ⟨_, rfl⟩
        have CO : Hid (∀ w, Calls Tryz.prog 145 #[.agg #[.string s', .int .i64 q', .int .i64 d', .string t', .int .i64 n'], .agg #[.string key, .int .i64 q, .int .i64 d, .string t, .int .i64 n]] w fun e w' => e = .returned (.int .i64 O) ∧ Below w.heap.size w w') := by rw [hO]; exact fun w => implOrder s' t' key t q' d' n' q d n w
        clear hO
        have hilI : (i : Int) < (len : Int) := by omega
        go_wp2_with fail
        have y0 := cell_later hb x0
        have y1 := cell_later hb x1
        have y2 := cell_later hb x2
        have y3 := cell_later hb x3
        have y4 := cell_later hb x4
        have k0 : Below wr.heap.size wr wr.drew := (Below.refl _ wr).drew
        have HMK : Hid (∀ w', Below wr.heap.size wr w' → (w'.cell? ⟨X, 0, none⟩ = some (.string key) ∧ w'.cell? ⟨X, 1, none⟩ = some (.int .i64 q) ∧ w'.cell? ⟨X, 2, none⟩ = some (.int .i64 d) ∧ w'.cell? ⟨X, 3, none⟩ = some (.string t) ∧ w'.cell? ⟨X, 4, none⟩ = some (.int .i64 n) ∧ X < w'.heap.size ∧ w'.cell? ⟨b, off + i * 5, none⟩ = some (.string s') ∧ w'.cell? ⟨b, off + i * 5 + 1, none⟩ = some (.int .i64 q') ∧ w'.cell? ⟨b, off + i * 5 + 2, none⟩ = some (.int .i64 d') ∧ w'.cell? ⟨b, off + i * 5 + 3, none⟩ = some (.string t') ∧ w'.cell? ⟨b, off + i * 5 + 4, none⟩ = some (.int .i64 n') ∧ b < w'.heap.size)) := fun w' kk => ⟨cell_later kk y0, cell_later kk y1, cell_later kk y2, cell_later kk y3, cell_later kk y4, World.block_lt_of_cell? _ _ (cell_later kk y0), cell_later kk g0', cell_later kk g1', cell_later kk g2', cell_later kk g3', cell_later kk g4', World.block_lt_of_cell? _ _ (cell_later kk g0')⟩
        refine wp_region_held_drew (S := (fun w' => w'.cell? ⟨X, 0, none⟩ = some (.string key) ∧ w'.cell? ⟨X, 1, none⟩ = some (.int .i64 q) ∧ w'.cell? ⟨X, 2, none⟩ = some (.int .i64 d) ∧ w'.cell? ⟨X, 3, none⟩ = some (.string t) ∧ w'.cell? ⟨X, 4, none⟩ = some (.int .i64 n) ∧ X < w'.heap.size ∧ w'.cell? ⟨b, off + i * 5, none⟩ = some (.string s') ∧ w'.cell? ⟨b, off + i * 5 + 1, none⟩ = some (.int .i64 q') ∧ w'.cell? ⟨b, off + i * 5 + 2, none⟩ = some (.int .i64 d') ∧ w'.cell? ⟨b, off + i * 5 + 3, none⟩ = some (.string t') ∧ w'.cell? ⟨b, off + i * 5 + 4, none⟩ = some (.int .i64 n') ∧ b < w'.heap.size)) (by kernel_rfl) (HMK.out _ k0) (fun hHeld => ?_)
        refine tkL 0 hHeld ?_; try go_frame
        refine tkL 1 hHeld ?_; try go_frame
        refine tkL 2 hHeld ?_; try go_frame
        refine tkL 3 hHeld ?_; try go_frame
        refine tkL 4 hHeld ?_; try go_frame
        refine tkL 5 hHeld ?_; try go_frame
        refine tkL 6 hHeld ?_; try go_frame
        refine tkL 7 hHeld ?_; try go_frame
        refine tkL 8 hHeld ?_; try go_frame
        refine tkL 9 hHeld ?_; try go_frame
        refine tkL 10 hHeld ?_; try go_frame
        refine wpAnyH_ready (rs := [11]) (by kernel_rfl) (by simp) ?_
        refine consL rfl (fun K hK => ?_) AllReadyH.nil
        go_simp
        refine (CO.out _).mono ?_
        rintro e w1 ⟨rfl, b1⟩
        have k1 : Below wr.heap.size wr w1 := k0.trans (b1.mono k0.size)
        go_wp2_with fail
        refine hK.out _ _ (HMK.out _ k1) (fun hHeld => ?_)
        clear hK K
        try go_frame
        refine tkL 12 hHeld ?_; try go_frame
        refine tkL 13 hHeld ?_; try go_frame
        refine tkL 14 hHeld ?_; try go_frame
        refine tkL 15 hHeld ?_; try go_frame
        refine wpAnyH_done (by kernel_rfl) ?_ _
        go_wp2
        refine bodyPost_ret (v := .tuple #[.int .i64 (i : Int), .bool (O == 0)]) (by simp [results, Tryz.results172, go_sem]) rfl ⟨i, O == 0, rfl, hjl, HP.out, HKW.out.trans ((hb.trans (k1.mono hb.size)).mono HKW.out.size)⟩
      · have hilI : ¬ (i : Int) < (len : Int) := by omega
        have hild : decide ((i : Int) < (len : Int)) = false := decide_eq_false hilI
        go_wp2_with fail
        have y0 := cell_later hb x0
        have y1 := cell_later hb x1
        have y2 := cell_later hb x2
        have y3 := cell_later hb x3
        have y4 := cell_later hb x4
        have k0 : Below wr.heap.size wr wr.drew := (Below.refl _ wr).drew
        have HMK : Hid (∀ w', Below wr.heap.size wr w' → (w'.cell? ⟨X, 0, none⟩ = some (.string key) ∧ w'.cell? ⟨X, 1, none⟩ = some (.int .i64 q) ∧ w'.cell? ⟨X, 2, none⟩ = some (.int .i64 d) ∧ w'.cell? ⟨X, 3, none⟩ = some (.string t) ∧ w'.cell? ⟨X, 4, none⟩ = some (.int .i64 n) ∧ X < w'.heap.size)) := fun w' kk => ⟨cell_later kk y0, cell_later kk y1, cell_later kk y2, cell_later kk y3, cell_later kk y4, World.block_lt_of_cell? _ _ (cell_later kk y0)⟩
        refine wp_region_held_drew (S := (fun w' => w'.cell? ⟨X, 0, none⟩ = some (.string key) ∧ w'.cell? ⟨X, 1, none⟩ = some (.int .i64 q) ∧ w'.cell? ⟨X, 2, none⟩ = some (.int .i64 d) ∧ w'.cell? ⟨X, 3, none⟩ = some (.string t) ∧ w'.cell? ⟨X, 4, none⟩ = some (.int .i64 n) ∧ X < w'.heap.size)) (by kernel_rfl) (HMK.out _ k0) (fun hHeld => ?_)
        refine tkL 0 hHeld ?_; try go_frame
        refine tkL 1 hHeld ?_; try go_frame
        refine tkL 2 hHeld ?_; try go_frame
        refine tkL 3 hHeld ?_; try go_frame
        refine tkL 4 hHeld ?_; try go_frame
        refine tkN 5 hHeld ?_; try go_frame
        refine tkN 6 hHeld ?_; try go_frame
        refine tkN 7 hHeld ?_; try go_frame
        refine tkN 8 hHeld ?_; try go_frame
        refine tkN 9 hHeld ?_; try go_frame
        refine tkN 10 hHeld ?_; try go_frame
        refine wpAnyH_ready (rs := [11]) (by kernel_rfl) (by simp) ?_
        refine consL rfl (fun K hK => ?_) AllReadyH.nil
        go_simp
        refine hK.out _ _ (HMK.out _ k0) (fun hHeld => ?_)
        clear hK K
        try go_frame
        refine tkN 12 hHeld ?_; try go_frame
        refine tkL 13 hHeld ?_; try go_frame
        refine tkL 14 hHeld ?_; try go_frame
        refine tkL 15 hHeld ?_; try go_frame
        refine wpAnyH_done (by kernel_rfl) ?_ _
        go_wp2
        refine bodyPost_ret (v := .tuple #[.int .i64 (i : Int), .bool false]) (by simp [results, Tryz.results172, go_sem]) rfl ⟨i, false, rfl, hjl, HP.out, HKW.out.trans ((hb.trans (k0.mono hb.size)).mono HKW.out.size)⟩
end Go.Proofs.YtlmgojlffgkciaaGreat

namespace Go.Proofs.YtlmgojlffgkciaaGreat
open Go.RowKit
set_option maxRecDepth 100000
set_option maxHeartbeats 1000000
def PlaceR (L : List EntD) (key : ByteArray) (q : Int) (len : Nat) (w : World) (e : Ending) (w' : World) : Prop :=
  ∃ (i : Nat), e = .returned (.int .i64 (i : Int)) ∧ i ≤ len ∧ Parted L key q i i ∧ Below w.heap.size w w'
theorem implPlace (b off len cap : Nat) (L : List EntD) (key : ByteArray) (q : Int) (w : World) (hL : EntsAt w (some ⟨b, off, none⟩) len cap L) (hr : rightB L = true) (hlen : len ≤ 1048576) (hlen1 : 1 ≤ len) :
    Calls Tryz.prog 135 #[.slice (some ⟨b, off, none⟩) len cap, .string key, .int .i64 q] w (PlaceR L key q len w) := by
  go_enter Tryz.func135, Tryz.ntmps135
  go_wp2_with fail
  refine (searchF b off len cap L key _ q _ _ w hL hr hlen hlen1).mono ?_
  rintro e w1 ⟨i, B, rfl, hi, hP, hb1⟩
  have HP : Hid (Parted L key q i i) := hP
  clear hP hL
  go_wp2
  go_ret
  exact ⟨i, rfl, hi, HP.out, hb1⟩
def FoundV (F : List EntD) (w : World) (e : Ending) (w' : World) : Prop :=
  ((e = .returned (.slice none 0 0) ∧ F = []) ∨ ∃ g n c, e = .returned (.slice (some ⟨g, 0, none⟩) n c) ∧ OwnE w' w.heap.size g n c F) ∧ Below w.heap.size w w'
theorem implFind (a : Option Addr) (len cap : Nat) (L : List EntD) (m : Int) (key : ByteArray) (seq : Int) (w : World) (hL : EntsAt w a len cap L) (hlen : len ≤ 1048576) :
    Calls Tryz.prog 91 #[.agg #[.slice a len cap, .int .i64 m], .string key, .int .i64 seq] w (FoundV (foundL L m key seq) w) := by
  obtain ⟨F, hF0⟩ : ∃ F, F = foundL L m key seq := ⟨_, rfl⟩
  rw [← hF0]
  have kA : Below w.heap.size w (w.alloc (.cells #[.slice a len cap, .int .i64 m] 102)) := (Below.refl _ _).alloc (Nat.le_refl _) _
  have HLEN : Hid (L.length = len) := hL.length
  have hbl := hL.room
  have hbc := hL.big
  unfold maxLen at hbc
  go_enter Tryz.func91, Tryz.ntmps91
  go_wp2_with fail
  refine (implRunOk _ _ _ L _ _ (hL.keep kA)).mono ?_
  rintro e w1 ⟨rfl, hb1⟩
  have x0 : w1.cell? ⟨w.heap.size, 0, none⟩ = some (.slice a len cap) := cell_later hb1 (by simp)
  have hB1 : Below w.heap.size w w1 := kA.trans (hb1.mono (by simp))
  clear hb1 kA
  cases hr : runB L m with
  | false =>
    have HF0 : Hid (F = []) := by rw [hF0]; exact found_no hr
    clear hL hF0 hr
    go_wp2
    go_ret
    exact ⟨Or.inl ⟨rfl, HF0.out⟩, hB1⟩
  | true =>
    obtain ⟨p1, p2, p3, p4⟩ := runB_parts hr
    have h1 : 1 ≤ len := by have := HLEN.out; omega
    obtain ⟨b, off, rfl, hbb⟩ := hL.form h1
    have HL : Hid (EntsAt w (some ⟨b, off, none⟩) len cap L) := hL
    have HR3 : Hid (rightB L = true) := p3
    have HF0 : Hid (F = findL L key seq) := by rw [hF0]; exact found_yes hr
    clear hL p1 p2 p3 p4 hr hF0
    go_wp2_with fail
    refine (implPlace b off len cap L key seq _ (HL.out.keep hB1) HR3.out hlen h1).mono ?_
    rintro e w2 ⟨i, rfl, hi, hPi, hb2⟩
    have y0 := cell_later hb2 x0
    have hB2 := hB1.trans (hb2.mono hB1.size)
    have HPi : Hid (Parted L key seq i i) := hPi
    clear hb2 hPi x0 hB1
    go_wp2_with fail
    refine (implPlace b off len cap L key 0 _ (HL.out.keep hB2) HR3.out hlen h1).mono ?_
    rintro e w3 ⟨j, rfl, hj, hPj, hb3⟩
    have z0 := cell_later hb3 y0
    have hB3 := hB2.trans (hb3.mono hB2.size)
    have hF := find_stretch HR3.out (L := L) (key := key) (seq := seq) (i := i) (j := j) (by rw [HLEN.out]; exact hi) (by rw [HLEN.out]; exact hj) HPi.out.1 HPi.out.2 hPj.1 hPj.2
    obtain ⟨hij, hF⟩ := hF
    have HF : Hid (findL L key seq = (L.drop i).take (j - i)) := hF
    clear hb3 hPj y0 hB2 hF HPi
    have hsz := right_sizes HR3.out i (j - i)
    have HSZ : Hid (∀ e ∈ (L.drop i).take (j - i), e.1.size ≤ 281474976710656 ∧ e.2.2.2.1.size ≤ 281474976710656) := hsz
    clear hsz
    by_cases hci : cap = i
    · subst hci
      have hE : EntsAt w3 (some ⟨b, off, none⟩) (j - cap) 0 ((L.drop cap).take (j - cap)) := by
        have hj0 : j - cap = 0 := by omega
        rw [hj0]
        exact ⟨rfl, Nat.le_refl _, Nat.zero_le _, by simp, (fun e => by cases e), (fun x e hp => absurd hp (Nat.not_lt_zero _)), fun x e k hk => by simp at hk⟩
      have HE : Hid (EntsAt w3 (some ⟨b, off, none⟩) (j - cap) 0 ((L.drop cap).take (j - cap))) := hE
      clear hE
      go_wp2_with fail
      with_reducible refine (cloneE_any _ _ _ _ _ HE.out (by omega) HSZ.out).mono ?_
      rintro e w4 ⟨rfl, hO, hlt, hb4⟩
      have HO : Hid (OwnE w4 w3.heap.size w3.heap.size (j - cap) (j - cap) ((L.drop cap).take (j - cap))) := hO
      clear hO
      go_wp2
      go_ret
      exact ⟨Or.inr ⟨_, _, _, rfl, by rw [HF0.out, HF.out]; exact HO.out.mono hB3.size⟩, hB3.trans (hb4.mono hB3.size)⟩
    · have hE : EntsAt w3 (some ⟨b, off + i * 5, none⟩) (j - i) (cap - i) ((L.drop i).take (j - i)) := (HL.out.keep hB3).sub hij hj
      have HE : Hid (EntsAt w3 (some ⟨b, off + i * 5, none⟩) (j - i) (cap - i) ((L.drop i).take (j - i))) := hE
      clear hE
      go_wp2_with fail
      all_goals
        refine (cloneE_any _ _ _ _ _ HE.out (by omega) HSZ.out).mono ?_
        rintro e w4 ⟨rfl, hO, hlt, hb4⟩
        have HO : Hid (OwnE w4 w3.heap.size w3.heap.size (j - i) (j - i) ((L.drop i).take (j - i))) := hO
        clear hO
        go_wp2
        go_ret
        exact ⟨Or.inr ⟨_, _, _, rfl, by rw [HF0.out, HF.out]; exact HO.out.mono hB3.size⟩, hB3.trans (hb4.mono hB3.size)⟩
end Go.Proofs.YtlmgojlffgkciaaGreat

namespace Go.Proofs.YtlmgojlffgkciaaGreat
open Go.RowKit
theorem foundV_own {F : List EntD} {w w' : World} {e : Ending} (h : FoundV F w e w') : ∃ a n c, e = .returned (.slice a n c) ∧ OwnO w' w.heap.size a n c F ∧ Below w.heap.size w w' := by
  obtain ⟨h1 | ⟨g, n, c, rfl, hO⟩, hb⟩ := h
  · obtain ⟨rfl, rfl⟩ := h1
    exact ⟨none, 0, 0, rfl, OwnO.none _ _, hb⟩
  · exact ⟨_, n, c, rfl, OwnO.some hO, hb⟩
end Go.Proofs.YtlmgojlffgkciaaGreat
