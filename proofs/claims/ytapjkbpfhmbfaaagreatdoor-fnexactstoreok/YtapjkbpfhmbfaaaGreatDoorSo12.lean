/-
  The program's reader of a log: its next batch, by a walk of its Go text.
-/
import Derived.Deep.RegionHeld3
import Derived.Deep.RegionWith
import Derived.Test.YtapjkbpfhmbfaaaGreatDoorSo05
import Derived.Test.YtapjkbpfhmbfaaaGreatDoorSo09
import Derived.Test.YtapjkbpfhmbfaaaGreatDoorSo11
namespace Go.Proofs.YtapjkbpfhmbfaaaGreatDoor
set_option maxRecDepth 100000
set_option maxHeartbeats 4000000
open Go.RowKit Go.Shelf
def TabB (B : Nat) (w : World) : Prop := ∀ w', Below B w w' → Lib.TabIs Tryz.prog w' "internal/strconv.uint64pow10" .u64 Lib.pow10Tab
theorem LrAt.new (w : World) (T : TypeId) (t : ByteArray) (k : Nat) (hk : k ≤ t.size) : LrAt (w.alloc (.cells #[.string t, .int .i64 (k : Int)] T)) w.heap.size t k :=
  ⟨by simp, by simp, fun o => World.frozen?_alloc_new w _ _ o, hk⟩
theorem LrAt.grown {w w' : World} {X R k : Nat} {t : ByteArray} (h : LrAt w X t k) (hg : w.grownBy w' (some R)) (hn : X ≠ R) : LrAt w' X t k :=
  ⟨(grown_cell hg (x := ⟨X, 0, none⟩) h.lt hn).trans h.c0, (grown_cell hg (x := ⟨X, 1, none⟩) h.lt hn).trans h.c1, fun o => (World.frozen?_of_block (hg.block X h.lt (fun e => hn (by cases e; rfl)))).trans (h.fz o), h.le⟩
theorem LrAt.gro {w w' : World} {X k : Nat} {r : Option Nat} {t : ByteArray} (h : LrAt w X t k) (hg : w.grownBy w' r) (hn : ¬ r = some X) : LrAt w' X t k := by
  have hb := hg.block X h.lt (fun e => hn e.symm)
  exact ⟨(World.cell?_of_block (a := ⟨X, 0, none⟩) hb).trans h.c0, (World.cell?_of_block (a := ⟨X, 1, none⟩) hb).trans h.c1, fun o => (World.frozen?_of_block (a := ⟨X, o, none⟩) hb).trans (h.fz o), h.le⟩
def BatE (t : ByteArray) (k X : Nat) (e : Ending) (w' : World) : Prop :=
  (∃ (L : List EntD) (a : Option Addr) (n c : Nat), FrAt (t.data.toList.drop k) L ∧ e = .returned (.tuple #[.slice a n c, .bool true]) ∧ EntsAt w' a n c L ∧ n ≤ 12 ∧ LrAt w' X t (k + (frameT L).length)) ∨
  ((∀ L, ¬ FrAt (t.data.toList.drop k) L) ∧ e = .returned (.tuple #[.slice none 0 0, .bool false]) ∧ LrAt w' X t k)
def BatI (s : Int) (l0 : List UInt8) (i : Nat) (M : List EntD) (l : List UInt8) : Prop := M ++ bodyP (12 - i) s l = bodyP 12 s l0
theorem BatI.next {s : Int} {l0 l l' : List UInt8} {i : Nat} {M : List EntD} {E : EntD} (h : BatI s l0 i M l) (hi : i < 12) (hs : s < (l.length : Int)) (he : (E, l') = entP l) : BatI s l0 (i + 1) (M ++ [E]) l' := by
  unfold BatI at *
  rw [← h, show 12 - i = (12 - (i + 1)) + 1 by omega, bodyP, if_pos hs, ← he]
  simp
theorem BatI.out {s : Int} {l0 l : List UInt8} {i : Nat} {M : List EntD} (h : BatI s l0 i M l) (hi : 12 ≤ i ∨ ¬ s < (l.length : Int)) : M = bodyP 12 s l0 := by
  unfold BatI at h
  rw [← h]
  have : bodyP (12 - i) s l = [] := by
    rcases hi with hi | hi
    · rw [show 12 - i = 0 by omega]; rfl
    · cases 12 - i with
      | zero => rfl
      | succ x => rw [bodyP, if_neg hi]
  rw [this, List.append_nil]
theorem rowEnts {w : World} {base i : Nat} {v : Value} {M : List EntD} (h : w.ownsRow base 87 5 v i (flatE M)) (hl : M.length = i) (hw : ∀ l ∈ M, EntW l) : ∃ a c, v = .slice a i c ∧ EntsAt w a i c M := by
  rcases h.2 with ⟨hv, h0⟩ | ⟨g, cap, cur, hv, h1, h2⟩
  · subst h0
    have hM : M = [] := List.length_eq_zero_iff.1 hl
    subst hM
    exact ⟨none, 0, hv, ⟨rfl, Nat.le_refl _, by unfold maxLen; omega, hw, fun _ => rfl, fun x e => (by cases e), fun x e => (by cases e)⟩⟩
  · subst hv
    exact ⟨_, cap, rfl, (OwnE.entsAt ⟨h, hl, hw⟩)⟩
theorem bat_is {t : ByteArray} {k j : Nat} {v N : Int} {L : List EntD} (hF : FrAt (t.data.toList.drop k) L) (ht : t.size ≤ 1048576) (hj : j ≤ t.size) (hn : (v, t.data.toList.drop j) = numP (t.data.toList.drop k)) (hN : IntKind.i64.wrap ((j : Int) + v) = N) : bodyP 12 ((t.size : Int) - N) (t.data.toList.drop j) = L := by
  obtain ⟨h1, r, h2, h3⟩ := frame_hit hF
  have hs := entsT_small hF.1
  rw [← hn] at h1 h2 h3
  simp only at h1 h2 h3
  have e1 : IntKind.i64.wrap ((j : Int) + v) = (j : Int) + v := by rw [IntWalk.i64_left]; unfold wrap64; omega
  rw [e1] at hN
  rw [List.length_drop, bytes_len] at h3
  rw [← h3]
  congr 1
  omega
theorem frame_txt {L : List EntD} (h : doneB L = true) : ∀ e ∈ L, e.1.size ≤ 281474976710656 ∧ e.2.2.2.1.size ≤ 281474976710656 := by
  intro e he
  obtain ⟨_, _, h3⟩ := done_parts h
  have h4 := ent_parts (h3 e he)
  omega
theorem rowKept {w w' : World} {base e size n A : Nat} {v : Value} {xs : List Value} (h : w.ownsRow base e size v n xs) (hg : w.grownBy w' (some A)) (hA : A < base) : w'.ownsRow base e size v n xs := h.kept hg (by
  have h1 := fun k e => (h.lt k e).1
  revert h1
  cases v.ownBlock with
  | none => intro _; exact .inl rfl
  | some x => intro h1; exact .inr (fun e => by have := h1 x rfl; have := Option.some.inj e; omega))
theorem gX {a w : World} {X o : Nat} {u : Value} (h : a.grownBy w (some X)) : a.grownBy (w.setCell ⟨X, o, none⟩ u) (some X) :=
  ⟨h.os, h.tape, h.output, by simpa [World.setCell] using h.size, fun k hk hn => (Below.heap_setCell _ _ _ _ (fun e => hn (by rw [e]))).trans (h.block k hk hn)⟩
theorem ext_all (t : ByteArray) (k : Nat) : (t.extract k t.size).data.toList = t.data.toList.drop k := by
  rw [ext_toList, List.take_of_length_le (by rw [List.length_drop, bytes_len]; omega)]
theorem batch_any (B X k : Nat) (t : ByteArray) (w : World) (h : LrAt w X t k) (ht : t.size ≤ 1048576) (hB : B ≤ X) (hE : ErrB B w) (hT : TabB B w) :
    Calls Tryz.prog 200 #[.pointer (some ⟨X, 0, none⟩)] w fun e w' => BatE t k X e w' ∧ w.grownBy w' (some X) := by
  have HL : Hid (LrAt w X t k) := h
  have HE : Hid (ErrB B w) := hE
  have HT : Hid (TabB B w) := hT
  have hX := h.lt
  have c0 := h.c0
  have c1 := h.c1
  have hkt := h.le
  clear h hE hT
  obtain ⟨i0, hi, hz0, hz1, hz2⟩ := info_parts Tryz.infoEnt
  obtain ⟨W0, hW0⟩ : ∃ W, W = w.alloc (.cells #[.string t, .int .i64 (k : Int)] 214) := ⟨_, rfl⟩
  have k0 : Below w.heap.size w W0 := by rw [hW0]; exact (Below.refl _ _).alloc (Nat.le_refl _) _
  have A0 : LrAt W0 w.heap.size t k := by rw [hW0]; exact LrAt.new _ _ _ _ hkt
  have L0 := HL.out.below k0
  have hwz : W0.heap.size = w.heap.size + 1 := by rw [hW0]; simp
  have HWZ : Hid (W0.heap.size = w.heap.size + 1) := hwz
  clear hwz
  go_enter Tryz.func200, Tryz.ntmps200
  go_wp2_with fail
  rw [← hW0]
  obtain ⟨A, hA⟩ : ∃ A, A = w.heap.size := ⟨_, rfl⟩
  have HA : Hid (A = w.heap.size) := hA
  have hXA : X < A := by omega
  rw [← hA] at A0
  simp only [← hA]
  clear hA hW0 c0 c1
  have HB0 : Hid (Below w.heap.size w W0) := k0
  have RE0 : ErrB B W0 := fun w' kk => HE.out w' ((HB0.out.mono (by omega)).trans kk)
  refine (number_any B A k t _ A0 ht (by omega) RE0).mono ?_
  rintro e w1 ⟨v, j, rfl, hv, hwv, A1, g1⟩
  have HV : Hid ((v, t.data.toList.drop j) = numP (t.data.toList.drop k)) := hv
  have L1 : Hid (LrAt w1 X t k) := L0.grown g1 (by omega)
  have HB1 : Hid (Below w.heap.size w w1) := HB0.out.grown g1 HB0.out.size (fun x e => by have := HA.out; have := Option.some.inj e; omega)
  have HZ1 : Hid (A + 1 ≤ w1.heap.size) := by have h1 := g1.size; have h2 := HWZ.out; have h3 := HA.out; show _ ≤ _; omega
  have HA1 : Hid (LrAt w1 A t j) := A1
  have hjt := A1.le
  clear hv g1 A0 L0 RE0 k0
  obtain ⟨N, hN⟩ : ∃ N, IntKind.i64.wrap ((j : Int) + v) = N := ⟨_, rfl⟩
  have HN : Hid (IntKind.i64.wrap ((j : Int) + v) = N) := hN
  have HBAT : Hid (∀ L, FrAt (t.data.toList.drop k) L → bodyP 12 ((t.size : Int) - N) (t.data.toList.drop j) = L) := fun L hL => bat_is hL ht hjt HV.out HN.out
  have a1 := A1.c1
  have hAl := A1.lt
  clear A1
  go_wp2
  clear a1 hAl hN
  go_loopw [7] (fun vv wr => ∃ (i jj : Nat) (M : List EntD), i ≤ 12 ∧ wr.ownsRow (A + 1) 87 5 vv i (flatE M) ∧ M.length = i ∧ (∀ l ∈ M, EntW l) ∧ LrAt wr A t jj ∧ BatI ((t.size : Int) - N) (t.data.toList.drop j) i M (t.data.toList.drop jj) ∧ LrAt wr X t k ∧ Below w.heap.size w wr ∧ A + 1 ≤ wr.heap.size) (fun vv _ => 12 - lenV vv)
  case atStart => exact ⟨0, j, [], by omega, ⟨rfl, Or.inl ⟨rfl, rfl⟩⟩, rfl, by simp, HA1.out, rfl, L1.out, HB1.out, HZ1.out⟩
  case round =>
    clear L1 HB1 HA1 HZ1
    obtain ⟨i, jj, M, hi12, hv, hml, hw, hA, hbi, hLX, hb, hz⟩ := hrel
    obtain ⟨ax, cx, rfl, hEnt⟩ := rowEnts hv hml hw
    have HEN : Hid (EntsAt wr ax i cx M) := hEnt
    have HV2 : Hid (wr.ownsRow (A + 1) 87 5 (.slice ax i cx) i (flatE M)) := hv
    have HW : Hid (∀ l ∈ M, EntW l) := hw
    have HML : Hid (M.length = i) := hml
    have HBI : Hid (BatI ((t.size : Int) - N) (t.data.toList.drop j) i M (t.data.toList.drop jj)) := hbi
    have HLA : Hid (LrAt wr A t jj) := hA
    have HLX : Hid (LrAt wr X t k) := hLX
    have HB : Hid (Below w.heap.size w wr) := hb
    have HZ : Hid (A + 1 ≤ wr.heap.size) := hz
    have HAX4 : Hid (∀ x, ax = some x → x.block ≠ X) := fun x e hx => by subst e; have h1 := (HV2.out.lt x.block rfl).1; omega
    have a1 := hA.c1
    have hAl := hA.lt
    have hjl := hA.le
    clear hv hw hml hbi hLX hb hEnt
    by_cases hlt : (jj : Int) < N
    · by_cases h12 : i < 12
      · have h12I : (i : Int) < 12 := by omega
        go_wp2_with fail
        refine (entry_any B A jj t _ HLA.out ht (by omega) (fun w' kk => HE.out w' ((HB.out.mono (by omega)).trans kk))).mono ?_
        rintro e w2 ⟨kk, tt, q, d, n, jn, rfl, hent, hew, hL2, hg2⟩
        have HEW : Hid (EntW (kk, q, d, tt, n)) := hew
        have HBN : Hid (BatI ((t.size : Int) - N) (t.data.toList.drop j) (i + 1) (M ++ [(kk, q, d, tt, n)]) (t.data.toList.drop jn)) := HBI.out.next h12 (by rw [List.length_drop, bytes_len]; omega) hent
        have HL2 : Hid (LrAt w2 A t jn) := hL2
        have HX2 : Hid (LrAt w2 X t k) := HLX.out.grown hg2 (by omega)
        have HV3 : Hid (w2.ownsRow (A + 1) 87 5 (.slice ax i cx) i (flatE M)) := rowKept HV2.out hg2 (by omega)
        have HB2 : Hid (Below w.heap.size w w2) := HB.out.grown hg2 HB.out.size (fun x e => by have := HA.out; have := Option.some.inj e; omega)
        have HZ2 : Hid (A + 1 ≤ w2.heap.size) := Nat.le_trans HZ.out hg2.size
        clear hent hew hL2 hg2 a1 hAl HEN HLX HB HLA
        have HCN : Hid (∀ j u, [Value.string kk, .int .i64 q, .int .i64 d, .string tt, .int .i64 n][j]? = some u → (w2.alloc (.cells #[.string kk, .int .i64 q, .int .i64 d, .string tt, .int .i64 n] 87)).cell? ((⟨w2.heap.size, 0, none⟩ : Addr).add j) = some u) := cellFive w2 kk q d tt n
        have ka : Below w2.heap.size w2 (w2.alloc (.cells #[.string kk, .int .i64 q, .int .i64 d, .string tt, .int .i64 n] 87)) := (Below.refl _ _).alloc (Nat.le_refl _) _
        have HVA : Hid ((w2.alloc (.cells #[.string kk, .int .i64 q, .int .i64 d, .string tt, .int .i64 n] 87)).ownsRow (A + 1) 87 5 (.slice ax i cx) i (flatE M)) := rowStay HV3.out ka
        have HBA : Hid (Below w.heap.size w (w2.alloc (.cells #[.string kk, .int .i64 q, .int .i64 d, .string tt, .int .i64 n] 87))) := HB2.out.trans (ka.mono HB2.out.size)
        have HLA2 : Hid (LrAt (w2.alloc (.cells #[.string kk, .int .i64 q, .int .i64 d, .string tt, .int .i64 n] 87)) A t jn) := HL2.out.below ka
        have HXA2 : Hid (LrAt (w2.alloc (.cells #[.string kk, .int .i64 q, .int .i64 d, .string tt, .int .i64 n] 87)) X t k) := HX2.out.below ka
        have HZA : Hid (A + 1 ≤ (w2.alloc (.cells #[.string kk, .int .i64 q, .int .i64 d, .string tt, .int .i64 n] 87)).heap.size) := Nat.le_trans HZ2.out ka.size
        clear ka
        go_wp2_with (at_builtin; refine wpList_append_own _ rfl _ _ 33 rfl (A + 1) 87 i0 _ 5 56 Tryz.underlying33 hi hz0 hz1 hz2 rfl (by decide) _ _ _ rfl HVA.out ⟨w2.heap.size, 0, none⟩ 1 1 [.string kk, .int .i64 q, .int .i64 d, .string tt, .int .i64 n] rfl rfl HCN.out (by intro u hu; simp at hu; rcases hu with rfl | rfl | rfl | rfl | rfl <;> rfl) (by unfold maxLen; omega) (by omega) HZA.out ?_; intro v2 w4 hown2 hgrow2 hnil2; obtain ⟨g2, c2, rfl⟩ := row_form hown2 (fun e => by cases (hnil2.1 e).2))
        go_roundw
        case rel =>
          have hap : ∀ x, (Value.slice ax i cx).ownBlock = some x → A + 1 ≤ x := fun x e => (HVA.out.lt x e).1
          refine ⟨i + 1, jn, M ++ [(kk, q, d, tt, n)], by omega, ?_, by rw [List.length_append, HML.out]; rfl, ?_, ?_, HBN.out, ?_, ?_, Nat.le_trans HZA.out hgrow2.size⟩
          · rw [flatE_append]
            exact hown2
          · intro l hl
            rcases List.mem_append.1 hl with h | h
            · exact HW.out l h
            · rw [List.mem_singleton] at h; subst h; exact HEW.out
          · exact HLA2.out.gro hgrow2 (fun e => by have := hap _ e; omega)
          · exact HXA2.out.gro hgrow2 (fun e => by have := hap _ e; omega)
          · exact HBA.out.grown hgrow2 HBA.out.size (fun x e => by have := hap x e; have := HA.out; omega)
        case measure => simp [lenV]; omega
      · have h12I : ¬ (i : Int) < 12 := by omega
        have HFM : Hid (M = bodyP 12 ((t.size : Int) - N) (t.data.toList.drop j)) := HBI.out.out (Or.inl (by omega))
        go_wp2_with fail
        refine (implFrame ax i cx M _ HEN.out (HT.out _ (HB.out.mono (by omega)))).mono ?_
        rintro e w3 ⟨rfl, hb3⟩
        have HEN3 : Hid (EntsAt w3 ax i cx M) := HEN.out.keep hb3
        have HLX3 : Hid (LrAt w3 X t k) := HLX.out.below hb3
        have HB3 : Hid (Below w.heap.size w w3) := HB.out.trans (hb3.mono HB.out.size)
        clear hb3 a1 hAl HLA HEN HLX HB HZ
        have k0 : Below w3.heap.size w3 w3.drew := (Below.refl _ w3).drew
        cases hd : doneB M with
        | false =>
          have HNX : Hid (∀ L, ¬ FrAt (t.data.toList.drop k) L) := fun L hL => by
            have h1 := HBAT.out L hL
            rw [← HFM.out] at h1
            rw [h1, hL.1] at hd
            cases hd
          rw [frameB_isno hd]
          clear hd
          go_upto_region 8 with fail
          refine wp_region_held_drew (S := (fun _ => True)) (by kernel_rfl) trivial (fun hHeld => ?_)
          refine tkL 0 hHeld ?_; try go_frame
          refine tkL 1 hHeld ?_; try go_frame
          refine tkL 2 hHeld ?_; try go_frame
          refine tkN 3 hHeld ?_; try go_frame
          refine tkN 4 hHeld ?_; try go_frame
          refine tkN 5 hHeld ?_; try go_frame
          refine tkN 6 hHeld ?_; try go_frame
          refine tkN 7 hHeld ?_; try go_frame
          refine tkN 8 hHeld ?_; try go_frame
          refine tkN 9 hHeld ?_; try go_frame
          refine tkN 10 hHeld ?_; try go_frame
          refine tkN 11 hHeld ?_; try go_frame
          refine tkN 12 hHeld ?_; try go_frame
          refine tkN 13 hHeld ?_; try go_frame
          refine tkN 14 hHeld ?_; try go_frame
          refine tkL 15 hHeld ?_; try go_frame
          refine wpAnyH_done (by kernel_rfl) ?_ _
          go_wp2
          exact bodyPost_ret (v := .tuple #[.slice none 0 0, .bool false]) (by simp [results, Tryz.results200, go_sem]) rfl ⟨Or.inr ⟨HNX.out, rfl, HLX3.out.drew⟩, gOf (HB3.out.trans ((Below.refl _ w3).drew.mono HB3.out.size)) _⟩
        | true =>
          obtain ⟨F, hF⟩ : ∃ F, F = frameB M := ⟨_, rfl⟩
          have HF : Hid (F.data.toList = frameT M ∧ F.size = (frameT M).length) := by
            have h1 := frameB_is hd
            rw [← hF] at h1
            exact ⟨h1, by rw [← h1, bytes_len]⟩
          have hFs : 1 ≤ F.size := by have h1 := HF.out.2; have h2 := frameT_pos M; omega
          have hF0 : F.toList.isEmpty = false := by
            rw [ByteArray.toList_eq]
            cases hq : F.data.toList with
            | nil => have h1 := congrArg List.length hq; rw [bytes_len, List.length_nil] at h1; omega
            | cons x r => rfl
          have HDN : Hid (doneB M = true) := hd
          rw [← hF]
          clear hF hd
          have hkI : (k : Int) ≤ (t.size : Int) := by omega
          have HMK : Hid (∀ w', Below w3.heap.size w3 w' → (w'.cell? ⟨X, 0, none⟩ = some (.string t) ∧ w'.cell? ⟨X, 1, none⟩ = some (.int .i64 (k : Int)) ∧ X < w'.heap.size ∧ Below w3.heap.size w3 w')) := fun w' kk => ⟨cell_later kk HLX3.out.c0, cell_later kk HLX3.out.c1, Nat.lt_of_lt_of_le HLX3.out.lt kk.size, kk⟩
          go_upto_region 8 with fail
          go_region_held3 (fun w' => w'.cell? ⟨X, 0, none⟩ = some (.string t) ∧ w'.cell? ⟨X, 1, none⟩ = some (.int .i64 (k : Int)) ∧ X < w'.heap.size ∧ Below w3.heap.size w3 w') (first | with_reducible exact HMK.out _ k0 | with_reducible exact HMK.out _ k1) (first
            | (go_at_call 245; refine (hasPrefix_any (t.extract k t.size) F _).mono ?_; rintro e w4 ⟨⟨b, rfl, hbp⟩, hb4⟩; have HBP : Hid (b = true ↔ F.data.toList <+: (t.extract k t.size).data.toList) := hbp; clear hbp; have k1 : Below w3.heap.size w3 w4 := k0.trans (hb4.mono k0.size)))
          all_goals
            have HLX4 : Hid (LrAt w4 X t k) := HLX3.out.below k1
            have HEN4 : Hid (EntsAt w4 ax i cx M) := HEN3.out.keep k1
            have HB4 : Hid (Below w.heap.size w w4) := HB3.out.trans (k1.mono HB3.out.size)
            cases b with
            | false =>
              have HNX : Hid (∀ L, ¬ FrAt (t.data.toList.drop k) L) := fun L hL => by
                have h1 := HBAT.out L hL
                rw [← HFM.out] at h1
                subst h1
                have h2 := HBP.out.2 (by rw [HF.out.1, ext_all]; obtain ⟨_, r, hr⟩ := hL; exact ⟨r, hr.symm⟩)
                cases h2
              go_wp2
              exact bodyPost_ret (v := .tuple #[.slice none 0 0, .bool false]) (by simp [results, Tryz.results200, go_sem]) rfl ⟨Or.inr ⟨HNX.out, rfl, HLX4.out⟩, gOf HB4.out _⟩
            | true =>
              have HFR : Hid (FrAt (t.data.toList.drop k) M) := by
                have h1 := HBP.out.1 rfl
                rw [HF.out.1, ext_all] at h1
                obtain ⟨r, hr⟩ := h1
                exact ⟨HDN.out, r, hr.symm⟩
              have hle : k + F.size ≤ t.size := by
                obtain ⟨_, r, hr⟩ := HFR.out
                have h1 := congrArg List.length hr
                rw [List.length_drop, bytes_len, List.length_append, ← HF.out.2] at h1
                omega
              have e1 : IntKind.i64.wrap ((k : Int) + (F.size : Int)) = (k : Int) + (F.size : Int) := by rw [IntWalk.i64_left]; unfold wrap64; omega
              have x1 := HLX4.out.c1
              have xf := HLX4.out.fz 1
              have xl := HLX4.out.lt
              have HG5 : Hid (LrAt (w4.setCell ⟨X, 1, none⟩ (.int .i64 ((k : Int) + (F.size : Int)))) X t (k + F.size)) := HLX4.out.go hle (by omega)
              have HN5 : Hid (w.grownBy (w4.setCell ⟨X, 1, none⟩ (.int .i64 ((k : Int) + (F.size : Int)))) (some X)) := gX (gOf HB4.out _)
              have HE5 : Hid (EntsAt (w4.setCell ⟨X, 1, none⟩ (.int .i64 ((k : Int) + (F.size : Int)))) ax i cx M) := HEN4.out.setCell _ _ (fun x e hp => HAX4.out x e)
              go_wp2
              exact bodyPost_ret (v := .tuple #[.slice ax i cx, .bool true]) (by simp [results, Tryz.results200, go_sem]) rfl ⟨Or.inl ⟨M, ax, i, cx, HFR.out, rfl, HE5.out, hi12, by rw [← HF.out.2]; exact HG5.out⟩, HN5.out⟩
    · have hltD : decide ((jj : Int) < N) = false := decide_eq_false hlt
      have HFM : Hid (M = bodyP 12 ((t.size : Int) - N) (t.data.toList.drop j)) := HBI.out.out (Or.inr (by rw [List.length_drop, bytes_len]; omega))
      go_wp2_with fail
      refine (implFrame ax i cx M _ HEN.out (HT.out _ (HB.out.mono (by omega)))).mono ?_
      rintro e w3 ⟨rfl, hb3⟩
      have HEN3 : Hid (EntsAt w3 ax i cx M) := HEN.out.keep hb3
      have HLX3 : Hid (LrAt w3 X t k) := HLX.out.below hb3
      have HB3 : Hid (Below w.heap.size w w3) := HB.out.trans (hb3.mono HB.out.size)
      clear hb3 a1 hAl HLA HEN HLX HB HZ
      have k0 : Below w3.heap.size w3 w3.drew := (Below.refl _ w3).drew
      cases hd : doneB M with
      | false =>
        have HNX : Hid (∀ L, ¬ FrAt (t.data.toList.drop k) L) := fun L hL => by
          have h1 := HBAT.out L hL
          rw [← HFM.out] at h1
          rw [h1, hL.1] at hd
          cases hd
        rw [frameB_isno hd]
        clear hd
        go_upto_region 8 with fail
        refine wp_region_held_drew (S := (fun _ => True)) (by kernel_rfl) trivial (fun hHeld => ?_)
        refine tkL 0 hHeld ?_; try go_frame
        refine tkL 1 hHeld ?_; try go_frame
        refine tkL 2 hHeld ?_; try go_frame
        refine tkN 3 hHeld ?_; try go_frame
        refine tkN 4 hHeld ?_; try go_frame
        refine tkN 5 hHeld ?_; try go_frame
        refine tkN 6 hHeld ?_; try go_frame
        refine tkN 7 hHeld ?_; try go_frame
        refine tkN 8 hHeld ?_; try go_frame
        refine tkN 9 hHeld ?_; try go_frame
        refine tkN 10 hHeld ?_; try go_frame
        refine tkN 11 hHeld ?_; try go_frame
        refine tkN 12 hHeld ?_; try go_frame
        refine tkN 13 hHeld ?_; try go_frame
        refine tkN 14 hHeld ?_; try go_frame
        refine tkL 15 hHeld ?_; try go_frame
        refine wpAnyH_done (by kernel_rfl) ?_ _
        go_wp2
        exact bodyPost_ret (v := .tuple #[.slice none 0 0, .bool false]) (by simp [results, Tryz.results200, go_sem]) rfl ⟨Or.inr ⟨HNX.out, rfl, HLX3.out.drew⟩, gOf (HB3.out.trans ((Below.refl _ w3).drew.mono HB3.out.size)) _⟩
      | true =>
        obtain ⟨F, hF⟩ : ∃ F, F = frameB M := ⟨_, rfl⟩
        have HF : Hid (F.data.toList = frameT M ∧ F.size = (frameT M).length) := by
          have h1 := frameB_is hd
          rw [← hF] at h1
          exact ⟨h1, by rw [← h1, bytes_len]⟩
        have hFs : 1 ≤ F.size := by have h1 := HF.out.2; have h2 := frameT_pos M; omega
        have hF0 : F.toList.isEmpty = false := by
          rw [ByteArray.toList_eq]
          cases hq : F.data.toList with
          | nil => have h1 := congrArg List.length hq; rw [bytes_len, List.length_nil] at h1; omega
          | cons x r => rfl
        have HDN : Hid (doneB M = true) := hd
        rw [← hF]
        clear hF hd
        have hkI : (k : Int) ≤ (t.size : Int) := by omega
        have HMK : Hid (∀ w', Below w3.heap.size w3 w' → (w'.cell? ⟨X, 0, none⟩ = some (.string t) ∧ w'.cell? ⟨X, 1, none⟩ = some (.int .i64 (k : Int)) ∧ X < w'.heap.size ∧ Below w3.heap.size w3 w')) := fun w' kk => ⟨cell_later kk HLX3.out.c0, cell_later kk HLX3.out.c1, Nat.lt_of_lt_of_le HLX3.out.lt kk.size, kk⟩
        go_upto_region 8 with fail
        go_region_held3 (fun w' => w'.cell? ⟨X, 0, none⟩ = some (.string t) ∧ w'.cell? ⟨X, 1, none⟩ = some (.int .i64 (k : Int)) ∧ X < w'.heap.size ∧ Below w3.heap.size w3 w') (first | with_reducible exact HMK.out _ k0 | with_reducible exact HMK.out _ k1) (first
          | (go_at_call 245; refine (hasPrefix_any (t.extract k t.size) F _).mono ?_; rintro e w4 ⟨⟨b, rfl, hbp⟩, hb4⟩; have HBP : Hid (b = true ↔ F.data.toList <+: (t.extract k t.size).data.toList) := hbp; clear hbp; have k1 : Below w3.heap.size w3 w4 := k0.trans (hb4.mono k0.size)))
        all_goals
          have HLX4 : Hid (LrAt w4 X t k) := HLX3.out.below k1
          have HEN4 : Hid (EntsAt w4 ax i cx M) := HEN3.out.keep k1
          have HB4 : Hid (Below w.heap.size w w4) := HB3.out.trans (k1.mono HB3.out.size)
          cases b with
          | false =>
            have HNX : Hid (∀ L, ¬ FrAt (t.data.toList.drop k) L) := fun L hL => by
              have h1 := HBAT.out L hL
              rw [← HFM.out] at h1
              subst h1
              have h2 := HBP.out.2 (by rw [HF.out.1, ext_all]; obtain ⟨_, r, hr⟩ := hL; exact ⟨r, hr.symm⟩)
              cases h2
            go_wp2
            exact bodyPost_ret (v := .tuple #[.slice none 0 0, .bool false]) (by simp [results, Tryz.results200, go_sem]) rfl ⟨Or.inr ⟨HNX.out, rfl, HLX4.out⟩, gOf HB4.out _⟩
          | true =>
            have HFR : Hid (FrAt (t.data.toList.drop k) M) := by
              have h1 := HBP.out.1 rfl
              rw [HF.out.1, ext_all] at h1
              obtain ⟨r, hr⟩ := h1
              exact ⟨HDN.out, r, hr.symm⟩
            have hle : k + F.size ≤ t.size := by
              obtain ⟨_, r, hr⟩ := HFR.out
              have h1 := congrArg List.length hr
              rw [List.length_drop, bytes_len, List.length_append, ← HF.out.2] at h1
              omega
            have e1 : IntKind.i64.wrap ((k : Int) + (F.size : Int)) = (k : Int) + (F.size : Int) := by rw [IntWalk.i64_left]; unfold wrap64; omega
            have x1 := HLX4.out.c1
            have xf := HLX4.out.fz 1
            have xl := HLX4.out.lt
            have HG5 : Hid (LrAt (w4.setCell ⟨X, 1, none⟩ (.int .i64 ((k : Int) + (F.size : Int)))) X t (k + F.size)) := HLX4.out.go hle (by omega)
            have HN5 : Hid (w.grownBy (w4.setCell ⟨X, 1, none⟩ (.int .i64 ((k : Int) + (F.size : Int)))) (some X)) := gX (gOf HB4.out _)
            have HE5 : Hid (EntsAt (w4.setCell ⟨X, 1, none⟩ (.int .i64 ((k : Int) + (F.size : Int)))) ax i cx M) := HEN4.out.setCell _ _ (fun x e hp => HAX4.out x e)
            go_wp2
            exact bodyPost_ret (v := .tuple #[.slice ax i cx, .bool true]) (by simp [results, Tryz.results200, go_sem]) rfl ⟨Or.inl ⟨M, ax, i, cx, HFR.out, rfl, HE5.out, hi12, by rw [← HF.out.2]; exact HG5.out⟩, HN5.out⟩
end Go.Proofs.YtapjkbpfhmbfaaaGreatDoor
