/-
  The walk of the program's take.
  What the program's tallyOf makes of every list of postings, by a walk of its Go text.
-/
import Derived.Test.YtfblpbihpmhgjaaDoorBp32
import Derived.Maps.OwnIn
namespace Go.Proofs.YtfblpbihpmhgjaaDoor
open Go.RowKit

theorem accL_take {A : List ByteArray} {L : List LegD} {k : Nat} {l : LegD} (h : L[k]? = some l) : accL A (L.take (k + 1)) = insI (accL A (L.take k)) l.1 := by
  rw [List.take_add_one, h]
  exact accL_snoc _ _ _
theorem take_snocL {L : List LegD} {k : Nat} {l : LegD} (h : L[k]? = some l) : L.take (k + 1) = L.take k ++ [l] := by
  rw [List.take_add_one, h]
  rfl
theorem insI_hit {A : List ByteArray} {s : ByteArray} (h : hitI A s = true) : insI A s = A := by unfold insI; rw [h]; rfl

set_option maxRecDepth 100000 in
set_option maxHeartbeats 4000000 in
theorem implTake (z T mi mb : Nat) (va : Value) (B : List PostD) (A : List ByteArray) (id : Int) (s : Option Addr) (m cm : Nat) (L : List LegD) (w : World) (hT : TallyAt w T mi mb va B B [] A) (hL : LegsAt w s m cm L) (h40 : B.length < 40) (hA : A.length ≤ 200) (hp : postB id L = true) (hno : hasP B id = false)
    (hz : ∀ x, s = some x → 0 < m → x.block < z) (hzi : z ≤ mi) (hzb : z ≤ mb) (hzw : z ≤ w.heap.size) :
    Calls Tryd.prog 118 #[.pointer (some ⟨T, 0, none⟩), .agg #[.int .i64 id, .slice s m cm]] w fun e w' => ∃ va', e = .returned (.tuple #[]) ∧ TallyAt w' T mi mb va' (B ++ [(id, L)]) (B ++ [(id, L)]) [] (accL A L) ∧ Below z w w' := by
  have hid := postB_id hp
  have hwf : (Lit.int .i64 id).wf = true := WalkArith.wf_i64 (by omega)
  have HPB : Hid (postB id L = true) := hp
  have HZ : Hid (∀ x, s = some x → 0 < m → x.block < z) := hz
  have HLEN : Hid (L.length = m) := hL.length
  have hm4 : m ≤ 4 := by have := postB_len hp; have := hL.length; omega
  have HALL : Hid (∀ l ∈ L, legB l = true) := postB_legs hp
  have kB : Below w.heap.size w (w.alloc (.cells #[.int .i64 id, .slice s m cm] 29)) := (Below.refl _ _).alloc (Nat.le_refl _) _
  have hmiT := hT.hmi
  have hmbT := hT.hmb
  obtain ⟨X, hX⟩ : ∃ X, X = w.heap.size := ⟨_, rfl⟩
  obtain ⟨W, hW⟩ : ∃ W, W = w.alloc (.cells #[.int .i64 id, .slice s m cm] 29) := ⟨_, rfl⟩
  have x0 : W.cell? ⟨X, 0, none⟩ = some (.int .i64 id) := by rw [hW, hX]; simp
  have x1 : W.cell? ⟨X, 1, none⟩ = some (.slice s m cm) := by rw [hW, hX]; simp
  rw [← hW] at kB
  have hTX : T < X := by rw [hX]; exact World.block_lt_of_cell? _ _ hT.c0
  have HLW : Hid (LegsAt W s m cm L) := hL.keep kB
  have TW := hT.below kB
  have TD : TallyAt W.drew T mi mb va B B [] A := TW.below ((Below.refl _ W).drew)
  obtain ⟨w1, hupd, T1, g1⟩ := TD.ids' (L := L) hwf hno h40
  have hlook := TD.tal.lookId hwf
  rw [hno] at hlook
  simp only [Bool.false_eq_true, if_false] at hlook
  have hBW : Below z w W := kB.mono hzw
  have hB1 : Below z w w1 := (hBW.drew).grown g1 (Nat.le_trans hzw (by have := kB.size; exact this)) (fun x e => by cases e; exact hzi)
  have c0W := TW.c0
  have x0D : W.drew.cell? ⟨X, 0, none⟩ = some (.int .i64 id) := x0
  have x1D : W.drew.cell? ⟨X, 1, none⟩ = some (.slice s m cm) := x1
  have hmiX : some X ≠ some mi := fun e => by cases e; omega
  have x01 := cell_far2 x0D g1 hmiX
  have x11 := cell_far2 x1D g1 hmiX
  have HL1 : Hid (LegsAt w1 s m cm L) := legs_grown (w := W.drew) (HLW.out.keep ((Below.refl _ W).drew)) g1 hz (fun x e => by cases e; exact hzi)
  have S0 : W.drew.cell? ⟨X, 0, none⟩ = some (.int .i64 id) ∧ W.drew.cell? ⟨T, 0, none⟩ = some (.map (some mi)) := ⟨x0D, TD.c0⟩
  have S1 : w1.cell? ⟨X, 0, none⟩ = some (.int .i64 id) ∧ w1.cell? ⟨T, 0, none⟩ = some (.map (some mi)) := ⟨x01, T1.c0⟩
  have HT1 : Hid (TallyAt w1 T mi mb va (B ++ [(id, L)]) B [] A) := T1
  have HS0 : Hid (W.drew.cell? ⟨X, 0, none⟩ = some (.int .i64 id) ∧ W.drew.cell? ⟨T, 0, none⟩ = some (.map (some mi))) := S0
  have HS1 : Hid (w1.cell? ⟨X, 0, none⟩ = some (.int .i64 id) ∧ w1.cell? ⟨T, 0, none⟩ = some (.map (some mi))) := S1
  clear hT hL hp hz TW TD T1 g1 S0 S1 x0D x1D kB hBW HLW hid hno
  go_enter Tryd.func118, Tryd.ntmps118
  go_upto_region 1 with fail
  rw [← hW]
  simp only [← hX]
  clear hW
  have HX : Hid (X = w.heap.size) := hX
  clear hX
  have e1 : IntKind.i64.wrap 1 = 1 := by rfl
  go_region_held3 (fun w' => w'.cell? ⟨X, 0, none⟩ = some (.int .i64 id) ∧ w'.cell? ⟨T, 0, none⟩ = some (.map (some mi))) (first | exact HS0.out | exact HS1.out) (fail)
  clear hlook hupd x0 x1 c0W HS0 HS1 x01 e1
  go_wp2
  go_loopw [19] (fun i wr => ∃ (k : Nat) (va : Value), k ≤ m ∧ i = .int .i64 k ∧ TallyAt wr T mi mb va (B ++ [(id, L)]) B (L.take k) (accL A (L.take k)) ∧ LegsAt wr s m cm L ∧ Below z w wr) (fun i _ => m - (intOf i).toNat)
  case atStart => exact ⟨0, va, Nat.zero_le _, rfl, HT1.out, HL1.out, hB1⟩
  case round =>
    clear hB1 HL1 HT1 x11
    obtain ⟨k, vk, hk, rfl, Tk, hLk, hbk⟩ := hrel
    have HLK : Hid (LegsAt wr s m cm L) := hLk
    obtain ⟨Ak, hAk⟩ : ∃ Ak, Ak = accL A (L.take k) := ⟨_, rfl⟩
    obtain ⟨Lk, hLkk⟩ : ∃ Lk, Lk = L.take k := ⟨_, rfl⟩
    rw [← hAk, ← hLkk] at Tk
    have HAK : Hid (Ak = accL A (L.take k)) := hAk
    have HKK : Hid (Lk = L.take k) := hLkk
    have hAl : Ak.length ≤ 300 := by
      rw [hAk]
      have h1 := accL_len A (L.take k)
      have h2 := HLEN.out
      simp at h1
      omega
    have hLl : Lk.length ≤ 4 := by rw [hLkk]; simp; omega
    clear hAk hLkk hLk
    by_cases hlt : k < m
    · obtain ⟨b, off, rfl, hbb⟩ := HLK.out.form (by omega)
      obtain ⟨t, cu, nn, hgk, hlw, g0, g1, g2⟩ := HLK.out.leg (Below.refl _ wr) hbb k hlt
      have hlb : legB (t, cu, nn) = true := HALL.out _ (List.mem_of_getElem? hgk)
      have HGK : Hid (L[k]? = some (t, cu, nn)) := hgk
      have hbz := HZ.out _ rfl (by omega)
      simp only at hbz
      have hnum : -1000 ≤ nn ∧ nn ≤ 1000 := by simp [legB] at hlb; omega
      obtain ⟨hn1, hn2⟩ := hnum
      clear hgk
      obtain ⟨a, c, rfl⟩ := row_slice Tk.row
      have hTr : T < wr.heap.size := World.block_lt_of_cell? _ _ Tk.c0
      obtain ⟨Y, hY⟩ : ∃ Y, Y = wr.heap.size := ⟨_, rfl⟩
      obtain ⟨W2, hW2⟩ : ∃ W2, W2 = wr.alloc (.cells #[.string t, .int .i64 cu, .int .i64 nn] 69) := ⟨_, rfl⟩
      have kW : Below wr.heap.size wr W2 := by rw [hW2]; exact (Below.refl _ _).alloc (Nat.le_refl _) _
      have y0 : W2.drew.cell? ⟨Y, 0, none⟩ = some (.string t) := by rw [hW2, hY]; simp [go_sem]
      have y1 : W2.drew.cell? ⟨Y, 1, none⟩ = some (.int .i64 cu) := by rw [hW2, hY]; simp [go_sem]
      have y2 : W2.drew.cell? ⟨Y, 2, none⟩ = some (.int .i64 nn) := by rw [hW2, hY]; simp [go_sem]
      have TD : TallyAt W2.drew T mi mb (.slice a Ak.length c) (B ++ [(id, L)]) B Lk Ak := Tk.below kW.drew
      obtain ⟨v0, st, w2, w3, hent, hsto, hlk2, gr2, T3, gr3⟩ := TD.bal' (l := (t, cu, nn)) hlb hlw (by omega) hLl
      have hlook := TD.look (s := t) (c := cu) hlw.1 hlw.2.1
      have hbd := balK_bd (B := B) (L := Lk) (by omega) hLl t cu
      simp only at hent hsto hlk2
      obtain ⟨A0, hA0⟩ : ∃ A0, A0 = balK B Lk t cu := ⟨_, rfl⟩
      rw [← hA0] at hlook hsto hbd hlk2
      obtain ⟨hbd1, hbd2⟩ := hbd
      have hmY : some Y ≠ some mb := fun e => by cases e; omega
      have hmT : some T ≠ some mb := fun e => by cases e; omega
      have SD : W2.drew.cell? ⟨Y, 0, none⟩ = some (.string t) ∧ W2.drew.cell? ⟨Y, 1, none⟩ = some (.int .i64 cu) ∧ W2.drew.cell? ⟨Y, 2, none⟩ = some (.int .i64 nn) ∧ W2.drew.cell? ⟨T, 1, none⟩ = some (.map (some mb)) := ⟨y0, y1, y2, TD.c1⟩
      have HSD : Hid (W2.drew.cell? ⟨Y, 0, none⟩ = some (.string t) ∧ W2.drew.cell? ⟨Y, 1, none⟩ = some (.int .i64 cu) ∧ W2.drew.cell? ⟨Y, 2, none⟩ = some (.int .i64 nn) ∧ W2.drew.cell? ⟨T, 1, none⟩ = some (.map (some mb))) := SD
      have HS2 : Hid (w2.cell? ⟨Y, 0, none⟩ = some (.string t) ∧ w2.cell? ⟨Y, 1, none⟩ = some (.int .i64 cu) ∧ w2.cell? ⟨Y, 2, none⟩ = some (.int .i64 nn) ∧ w2.cell? ⟨T, 1, none⟩ = some (.map (some mb))) := ⟨cell_far2 y0 gr2 hmY, cell_far2 y1 gr2 hmY, cell_far2 y2 gr2 hmY, cell_far2 TD.c1 gr2 hmT⟩
      have HS3 : Hid (w3.cell? ⟨Y, 0, none⟩ = some (.string t) ∧ w3.cell? ⟨Y, 1, none⟩ = some (.int .i64 cu) ∧ w3.cell? ⟨Y, 2, none⟩ = some (.int .i64 nn) ∧ w3.cell? ⟨T, 1, none⟩ = some (.map (some mb))) := ⟨cell_far2 y0 gr3 hmY, cell_far2 y1 gr3 hmY, cell_far2 y2 gr3 hmY, T3.c1⟩
      have hzr : z ≤ wr.heap.size := Nat.le_trans hzw hbk.size
      have hbW : Below z w W2.drew := (hbk.trans (kW.mono hzr)).drew
      have hb3 : Below z w w3 := hbW.grown gr3 (Nat.le_trans hzw hbW.size) (fun x e => by cases e; exact hzb)
      have eA : IntKind.i64.wrap (A0 + nn) = A0 + nn := by rw [IntKind.wrap_i64]; omega
      have hYw : Y < w3.heap.size := World.block_lt_of_cell? _ _ HS3.out.1
      have HT3 : Hid (TallyAt w3 T mi mb (.slice a Ak.length c) (B ++ [(id, L)]) B (Lk ++ [(t, cu, nn)]) Ak) := T3
      have HL3 : Hid (LegsAt w3 (some ⟨b, off, none⟩) m cm L) := legs_grown (w := W2.drew) (HLK.out.keep kW.drew) gr3 HZ.out (fun x e => by cases e; exact hzb)
      have hTY : T ≠ Y := by omega
      clear hA0 T3 TD SD gr2 gr3 kW hbW hmY hmT y0 y1 y2
      go_upto_region 5 with fail
      rw [← hW2]
      simp only [← hY]
      clear hW2
      have HY : Hid (Y = wr.heap.size) := hY
      clear hY g0 g1 g2
      go_cut [35] from 20 to 62 (fun _ wx => wx = w3)
      case first =>
        go_region_held3 (fun w' => w'.cell? ⟨Y, 0, none⟩ = some (.string t) ∧ w'.cell? ⟨Y, 1, none⟩ = some (.int .i64 cu) ∧ w'.cell? ⟨Y, 2, none⟩ = some (.int .i64 nn) ∧ w'.cell? ⟨T, 1, none⟩ = some (.map (some mb))) (first | exact HSD.out | exact HS2.out | exact HS3.out) (fail)
        all_goals
          go_wp2
          go_meet
          rfl
      case rest =>
        have hc' := hcut.symm
        subst hc'
        clear hcut
        have y03 := HS3.out.1
        have HSY : Hid (w3.cell? ⟨Y, 0, none⟩ = some (.string t)) := y03
        clear hlook hlk2 hent hsto HSD HS2 HS3 eA
        have c23 := HT3.out.c2
        have k30 : Below w3.heap.size w3 w3.drew := (Below.refl _ w3).drew
        have HMK : Hid (∀ w', Below w3.heap.size w3 w' → (w'.cell? ⟨Y, 0, none⟩ = some (.string t) ∧ w'.cell? ⟨T, 2, none⟩ = some (.slice a Ak.length c))) := fun w' k => ⟨cell_later k y03, cell_later k c23⟩
        obtain ⟨ps, hps⟩ : ∃ ps, ps = posI Ak t := ⟨_, rfl⟩
        have hpl : ps ≤ Ak.length := by rw [hps]; exact posI_le _ _
        have HPS : Hid (ps = posI Ak t) := hps
        clear hps
        go_upto_region 6 with fail
        go_cut [6, 7] from 20 to 62 (fun s6 s7 wx => s6 = .int .i64 (ps : Int) ∧ s7 = .bool (hitI Ak t) ∧ Below w3.heap.size w3 wx)
        case first =>
          go_region_held3 (fun w' => w'.cell? ⟨Y, 0, none⟩ = some (.string t) ∧ w'.cell? ⟨T, 2, none⟩ = some (.slice a Ak.length c)) (first | exact HMK.out _ k4 | exact HMK.out _ k30) (first
            | (go_at_call 142; refine (search_any (T + 1) Ak.length c a Ak t _ ?_ (by omega)).mono ?_; exact (HT3.out.below k30).row; rw [← HPS.out]; rintro e w4 ⟨rfl, hb4⟩; have k4 : Below w3.heap.size w3 w4 := k30.trans (hb4.mono k30.size)))
          all_goals
            go_wp2
            go_meet
            exact ⟨rfl, rfl, k4⟩
        case rest =>
          obtain ⟨rfl, rfl, k4⟩ := hcut
          have T4 : TallyAt wc T mi mb (.slice a Ak.length c) (B ++ [(id, L)]) B (Lk ++ [(t, cu, nn)]) Ak := HT3.out.below k4
          have HL4 : Hid (LegsAt wc (some ⟨b, off, none⟩) m cm L) := HL3.out.keep k4
          have hb4 : Below z w wc := hb3.trans (k4.mono (Nat.le_trans hzw hb3.size))
          have y04 := cell_later k4 y03
          clear HMK k30 c23 y03 HT3 HL3 hb3 k4 HSY
          cases hh : hitI Ak t with
          | true =>
            go_wp2
            go_roundw
            case rel => exact ⟨k + 1, .slice a Ak.length c, by omega, by go_num, by rw [accL_take HGK.out, take_snocL HGK.out, ← HAK.out, ← HKK.out, insI_hit hh]; exact T4, HL4.out, hb4⟩
            case measure => simp [intOf]; omega
          | false =>
            have HT4 : Hid (TallyAt wc T mi mb (.slice a Ak.length c) (B ++ [(id, L)]) B (Lk ++ [(t, cu, nn)]) Ak) := T4
            have c24 := T4.c2
            have f24 := T4.f2
            have hTc : T < wc.heap.size := World.block_lt_of_cell? _ _ c24
            have hYc : Y < wc.heap.size := World.block_lt_of_cell? _ _ y04
            have hzc : z ≤ wc.heap.size := by omega
            clear T4
            have K8 : Below wc.heap.size wc ((wc.alloc (.cells #[.string t] 9)).drew) := ((Below.refl _ _).alloc (Nat.le_refl _) _).drew
            have HT8 : Hid (TallyAt ((wc.alloc (.cells #[.string t] 9)).drew) T mi mb (.slice a Ak.length c) (B ++ [(id, L)]) B (Lk ++ [(t, cu, nn)]) Ak) := HT4.out.below K8
            have HL8 : Hid (LegsAt ((wc.alloc (.cells #[.string t] 9)).drew) (some ⟨b, off, none⟩) m cm L) := HL4.out.keep K8
            have hv8 : ((wc.alloc (.cells #[.string t] 9)).drew).heap[wc.heap.size]? = some (.cells #[.string t] 9 (0, 0)) := heap_alloc_new wc _
            have hne8 : (Value.slice a Ak.length c).ownBlock ≠ some wc.heap.size := fun e => by have := (HT4.out.row.lt _ e).2; omega
            have hb8 : Below z w ((wc.alloc (.cells #[.string t] 9)).drew) := hb4.trans (K8.mono hzc)
            have hs8 : T + 1 ≤ ((wc.alloc (.cells #[.string t] 9)).drew).heap.size := by
              have : ((wc.alloc (.cells #[.string t] 9)).drew).heap.size = wc.heap.size + 1 := by simp
              omega
            have HV8 : Hid (((wc.alloc (.cells #[.string t] 9)).drew).heap[wc.heap.size]? = some (.cells #[.string t] 9 (0, 0))) := hv8
            have HS8 : Hid (T + 1 ≤ ((wc.alloc (.cells #[.string t] 9)).drew).heap.size) := hs8
            have HB8 : Hid (Below z w ((wc.alloc (.cells #[.string t] 9)).drew)) := hb8
            have HH : Hid (hitI Ak t = false) := hh
            clear hv8 hs8 hb8 K8 hh
            go_upto_region 8 with fail
            go_region_with (first
              | (go_at_call 143; refine (insert_any (T + 1) Ak.length c ps wc.heap.size a Ak t _ ?_ hpl (by omega) ?_ ?_ hne8).mono ?_; exact HT8.out.row; exact HS8.out; exact HV8.out; rintro e w5 ⟨v', rfl, hins⟩; obtain ⟨a5, n5, rfl⟩ := row_slice hins.1; have hne5 : some T ≠ (Value.slice a Ak.length c).ownBlock := (fun e => by have := (HT8.out.row.lt _ e.symm).1; omega); have c25 : w5.cell? ⟨T, 2, none⟩ = some (.slice a Ak.length c) := cell_far2 HT8.out.c2 hins.2.1 hne5; have f25 : w5.frozen? ⟨T, 2, none⟩ = false := (frozen_far hins.2.1 (x := ⟨T, 2, none⟩) (World.block_lt_of_cell? _ _ HT8.out.c2) hne5).trans HT8.out.f2; have HIN : Hid (Inserted ((wc.alloc (.cells #[.string t] 9)).drew) w5 (T + 1) Ak.length (.slice a Ak.length c) (.slice a5 (Ak.length + 1) n5) ((Ak.take ps ++ t :: Ak.drop ps).map .string)) := hins; clear hins))
            all_goals
              have hin := HIN.out
              rw [HPS.out] at hin
              have T9 := HT8.out.acc' HH.out hin
              have hrow : ∀ x, (Value.slice a Ak.length c).ownBlock = some x → T + 1 ≤ x := fun x e => (HT8.out.row.lt x e).1
              have hL9 := (legs_grown HL8.out hin.2.1 HZ.out (fun x e => by have := hrow x e; omega)).setCell ⟨T, 2, none⟩ (.slice a5 (Ak.length + 1) n5) (fun x e _ => by cases e; simp only; omega)
              have hb9 := (HB8.out.grown hin.2.1 (Nat.le_trans hzw HB8.out.size) (fun x e => by have := hrow x e; omega)).setCell (p := ⟨T, 2, none⟩) (by show z ≤ T; omega) (.slice a5 (Ak.length + 1) n5)
              have H9 : Hid (∃ (k' : Nat) (va : Value), k' ≤ m ∧ Value.int .i64 ((k : Int) + 1) = .int .i64 k' ∧ TallyAt (w5.setCell ⟨T, 2, none⟩ (.slice a5 (Ak.length + 1) n5)) T mi mb va (B ++ [(id, L)]) B (L.take k') (accL A (L.take k')) ∧ LegsAt (w5.setCell ⟨T, 2, none⟩ (.slice a5 (Ak.length + 1) n5)) (some ⟨b, off, none⟩) m cm L ∧ Below z w (w5.setCell ⟨T, 2, none⟩ (.slice a5 (Ak.length + 1) n5))) := ⟨k + 1, _, by omega, by simp, by rw [accL_take HGK.out, take_snocL HGK.out, ← HAK.out, ← HKK.out]; exact T9, hL9, hb9⟩
              clear T9 hL9 hb9 hin hrow HIN HT8 HL8 HV8 HS8 HB8 HT4 HL4
              go_wp2
              go_roundw
              case rel => exact H9.out
              case measure => simp [intOf]; omega
    · have hkm : k = m := by omega
      have h1 : Lk = L := by rw [HKK.out]; exact List.take_of_length_le (by rw [HLEN.out]; omega)
      have h2 : Ak = accL A L := by rw [HAK.out, List.take_of_length_le (by rw [HLEN.out]; omega)]
      rw [h1, h2] at Tk
      have Td := Tk.done HPB.out
      clear Tk h1 h2
      go_wp2
      go_end0
      exact ⟨vk, rfl, Td, hbk⟩
end Go.Proofs.YtfblpbihpmhgjaaDoor

namespace Go.Proofs.YtfblpbihpmhgjaaDoor
open Go.RowKit

attribute [local go_sem] Oper.semAt_some

theorem accB_len (B : List PostD) (h : ∀ p ∈ B, p.2.length ≤ 4) : (accB B).length ≤ 4 * B.length := by
  have key : ∀ (B : List PostD) (A : List ByteArray), (∀ p ∈ B, p.2.length ≤ 4) → (B.foldl (fun A p => accL A p.2) A).length ≤ A.length + 4 * B.length := by
    intro B
    induction B with
    | nil => intro A _; simp
    | cons p r ih =>
      intro A h
      have h1 := ih (accL A p.2) (fun q hq => h q (List.mem_cons_of_mem _ hq))
      have h2 := accL_len A p.2
      have h3 := h p (List.mem_cons_self ..)
      simp only [List.foldl_cons, List.length_cons] at h1 ⊢
      omega
  have := key B [] h
  unfold accB
  simpa using this
theorem take_snocB {B : List PostD} {k : Nat} {p : PostD} (h : B[k]? = some p) : B.take (k + 1) = B.take k ++ [p] := by
  rw [List.take_add_one, h]
  rfl

theorem grown_tr {a b c : World} {R : Option Nat} (h : a.grownBy b R) (k : b.grownBy c R) : a.grownBy c R :=
  ⟨k.os.trans h.os, k.tape.trans h.tape, k.output.trans h.output, Nat.le_trans h.size k.size, fun i hi hn => (k.block i (Nat.lt_of_lt_of_le hi h.size) hn).trans (h.block i hi hn)⟩
theorem grown_set (w : World) (R o : Nat) (v : Value) : w.grownBy (w.setCell ⟨R, o, none⟩ v) (some R) :=
  ⟨rfl, rfl, rfl, by simp [World.setCell], fun k _ hk => Below.heap_setCell _ _ _ _ (fun e => hk (by rw [e]))⟩

/-- What tallyOf hands back. -/
def TallyR (B : List PostD) (w : World) (e : Ending) (w' : World) : Prop :=
  (bookB B = true ∧ ∃ T mi mb va, e = .returned (.tuple #[.agg #[.map (some mi), .map (some mb), va], .nilIface]) ∧ TallyAt w' T mi mb va B B [] (accB B) ∧ w.heap.size < mi ∧ w.heap.size < mb ∧ Below w.heap.size w w') ∨
  (bookB B = false ∧ ∃ c, ¬ c = 0 ∧ e = .returned (.tuple #[.agg #[.map none, .map none, .slice none 0 0], .iface 159 (.agg #[.int .i64 c])]) ∧ Below w.heap.size w w')

set_option maxRecDepth 100000 in
set_option maxHeartbeats 4000000 in
theorem implTally (a : Option Addr) (n c : Nat) (B : List PostD) (w : World) (hP : PostsAt w a n c B) :
    Calls Tryd.prog 86 #[.slice a n c] w fun e w' => TallyR B w e w' := by
  have hmm := @run_makeMap Tryd.prog
  have HLEN : Hid (B.length = n) := hP.length
  have hr := hP.room
  have hbg := hP.big
  unfold maxLen at hbg
  have HP : Hid (PostsAt w a n c B) := hP
  clear hP
  go_enter Tryd.func86, Tryd.ntmps86
  go_upto_region 2 with fail
  obtain ⟨R, hR⟩ : ∃ R, R = w.heap.size := ⟨_, rfl⟩
  obtain ⟨W, hW⟩ : ∃ W, W = (((w.alloc (.cells #[.map none, .map none, .slice none 0 0] 117)).alloc (.map #[] 0)).alloc (.map #[] 0)).alloc (.cells #[.map (some (w.heap.size + 1)), .map (some (w.heap.size + 1 + 1)), .slice none 0 0] 117) := ⟨_, rfl⟩
  have kW : Below w.heap.size w W := by rw [hW]; exact ((((Below.refl _ _).alloc (Nat.le_refl _) _).alloc (by simp) _).alloc (by simp; omega) _).alloc (by simp; omega) _
  have T0 : TallyAt W (R + 1 + 1 + 1) (R + 1) (R + 1 + 1) (.slice none 0 0) [] [] [] [] := by
    have o1 := ((World.ownsMap_made (w.alloc (.cells #[.map none, .map none, .slice none 0 0] 117)) Tryd.prog 3 (plainElem (H := Unit) Tryd.prog 3)).alloc (.map #[] 0)).alloc (.cells #[.map (some (w.heap.size + 1)), .map (some (w.heap.size + 1 + 1)), .slice none 0 0] 117)
    have o2 := (World.ownsMap_made ((w.alloc (.cells #[.map none, .map none, .slice none 0 0] 117)).alloc (.map #[] 0)) Tryd.prog 178 (plainElem (H := Unit) Tryd.prog 3)).alloc (.cells #[.map (some (w.heap.size + 1)), .map (some (w.heap.size + 1 + 1)), .slice none 0 0] 117)
    simp only [World.size_alloc] at o1 o2
    rw [← hW, ← hR] at o1 o2
    refine ⟨by simp [hW, hR, go_sem], by simp [hW, hR, go_sem], by simp [hW, hR, go_sem], by simp [hW, hR, go_sem], ⟨_, o1, idsIs_nil⟩, ⟨_, o2, balIs_nil⟩, World.ownsRow_nil _ _ _ _, by omega, by omega, by omega⟩
  have hRW : R + 1 ≤ W.heap.size := by rw [hW, hR]; simp
  have r0 : W.cell? ⟨R, 0, none⟩ = some (.map none) := by rw [hW, hR]; simp [go_sem]
  have r1 : W.cell? ⟨R, 1, none⟩ = some (.map none) := by rw [hW, hR]; simp [go_sem]
  have r2 : W.cell? ⟨R, 2, none⟩ = some (.slice none 0 0) := by rw [hW, hR]; simp [go_sem]
  have fR : ∀ o, W.frozen? ⟨R, o, none⟩ = false := by intro o; rw [hW, hR]; simp [go_sem]
  rw [← hW, ← hR]
  have HR : Hid (R = w.heap.size) := hR
  have HFR : Hid (∀ o, W.frozen? ⟨R, o, none⟩ = false) := fR
  have HRC : Hid (W.cell? ⟨R, 0, none⟩ = some (.map none) ∧ W.cell? ⟨R, 1, none⟩ = some (.map none) ∧ W.cell? ⟨R, 2, none⟩ = some (.slice none 0 0)) := ⟨r0, r1, r2⟩
  have HT0 : Hid (TallyAt W (R + 1 + 1 + 1) (R + 1) (R + 1 + 1) (.slice none 0 0) [] [] [] []) := T0
  have HKW : Hid (Below w.heap.size w W) := kW
  clear hW hR hmm T0 r0 r1 r2 fR kW
  go_wp2
  go_loopw [13] (fun i wr => ∃ (k : Nat) (va : Value), k ≤ n ∧ i = .int .i64 k ∧ TallyAt wr (R + 1 + 1 + 1) (R + 1) (R + 1 + 1) va (B.take k) (B.take k) [] (accB (B.take k)) ∧ Below (R + 1) W wr ∧ okUp B k = true) (fun i _ => n - (intOf i).toNat)
  case atStart => exact ⟨0, _, Nat.zero_le _, rfl, HT0.out, Below.refl _ _, rfl⟩
  case round =>
    obtain ⟨k, va, hk, rfl, Tk, hbk, hok⟩ := hrel
    have hb : Below w.heap.size w wr := HKW.out.trans (hbk.mono (by rw [← HR.out]; omega))
    have HOK : Hid (okUp B k = true) := hok
    have hk40 : k ≤ 40 := okUp_len (by rw [HLEN.out]; exact hk) hok
    have HGD : Hid (∀ p ∈ B.take k, postB p.1 p.2 = true) := okUp_good (by rw [HLEN.out]; exact hk) hok
    have hal : (accB (B.take k)).length ≤ 160 := by
      have h1 := accB_len (B.take k) (fun p hp => postB_len (HGD.out p hp))
      simp at h1
      omega
    have HTL : Hid ((B.take k).length = k) := by show (B.take k).length = k; rw [List.length_take, HLEN.out]; omega
    obtain ⟨rc0, rc1, rc2⟩ := HRC.out
    have q0 : wr.cell? ⟨R, 0, none⟩ = some (.map none) := (hbk.cell (p := ⟨R, 0, none⟩) (by show R < R + 1; omega)).trans rc0
    have q1 : wr.cell? ⟨R, 1, none⟩ = some (.map none) := (hbk.cell (p := ⟨R, 1, none⟩) (by show R < R + 1; omega)).trans rc1
    have q2 : wr.cell? ⟨R, 2, none⟩ = some (.slice none 0 0) := (hbk.cell (p := ⟨R, 2, none⟩) (by show R < R + 1; omega)).trans rc2
    have qf : ∀ o, wr.frozen? ⟨R, o, none⟩ = false := fun o => (hbk.frozen (p := ⟨R, o, none⟩) (by show R < R + 1; omega)).trans (HFR.out o)
    clear hok rc0 rc1 rc2
    by_cases hlt : k < n
    · obtain ⟨b, off, rfl, hbb⟩ := HP.out.form (by omega)
      obtain ⟨id, L, s, m, cm, hgk, hidw, g0', g1', hL0⟩ := HP.out.post (Below.refl _ w) k hlt
      have g0 := cell_later hb g0'
      have g1 := cell_later hb g1'
      have HLK : Hid (LegsAt wr s m cm L) := hL0.keep hb
      have HZ : Hid (∀ x, s = some x → 0 < m → x.block < R + 1) := fun x hx hm => by have := (hL0.lies x hx hm).1; rw [HR.out]; omega
      have hbk2 : b < wr.heap.size := World.block_lt_of_cell? _ _ g0
      have HGK : Hid (B[k]? = some (id, L)) := hgk
      have HTK : Hid (TallyAt wr (R + 1 + 1 + 1) (R + 1) (R + 1 + 1) va (B.take k) (B.take k) [] (accB (B.take k))) := Tk
      have HB : Hid (Below w.heap.size w wr) := hb
      have HBK : Hid (Below (R + 1) W wr) := hbk
      have hk40' : (B.take k).length ≤ 40 := by rw [HTL.out]; exact hk40
      have hRwr : R + 1 ≤ wr.heap.size := Nat.le_trans hRW hbk.size
      clear hgk hL0 Tk g0' g1' hb hbk
      obtain ⟨c, hc⟩ : ∃ c, c = codeP (B.take k) (id, L) := ⟨_, rfl⟩
      have HC : Hid (codeP (B.take k) (id, L) = c) := hc.symm
      clear hc
      go_wp2_with fail
      have kP : Below wr.heap.size wr (wr.alloc (.cells #[.int .i64 id, .slice s m cm] 29)) := (Below.refl _ _).alloc (Nat.le_refl _) _
      refine (implMay (R + 1 + 1 + 1) (R + 1) (R + 1 + 1) (B.take k) id s m cm L _ (HTK.out.below kP).tal (HLK.out.keep kP) hk40').mono ?_
      rw [HC.out]
      rintro e w2 ⟨rfl, hb2⟩
      have k2 : Below wr.heap.size wr w2 := kP.trans (hb2.mono kP.size)
      have p0 : w2.cell? ⟨wr.heap.size, 0, none⟩ = some (.int .i64 id) := cell_later hb2 (by simp)
      have p1 : w2.cell? ⟨wr.heap.size, 1, none⟩ = some (.slice s m cm) := cell_later hb2 (by simp)
      have hpz : wr.heap.size < w2.heap.size := World.block_lt_of_cell? _ _ p0
      have r0 := cell_later k2 q0
      have r1 := cell_later k2 q1
      have r2 := cell_later k2 q2
      have f0 := (k2.frozen (p := ⟨R, 0, none⟩) hRwr).trans (qf 0)
      have f1 := (k2.frozen (p := ⟨R, 1, none⟩) hRwr).trans (qf 1)
      have f2 := (k2.frozen (p := ⟨R, 2, none⟩) hRwr).trans (qf 2)
      have hR2 : R < w2.heap.size := World.block_lt_of_cell? _ _ r0
      clear g0 g1 q0 q1 q2 qf hb2 kP hbk2
      by_cases hc0 : c = 0
      · subst hc0
        obtain ⟨hfair, hno, _, h39⟩ := codeP_zero HC.out
        have hpb := fair_post (p := (id, L)) hfair
        have HBZ : Hid (postB id L = true) := hpb
        have HNO : Hid (hasP (B.take k) id = false) := hno
        have HL39 : Hid ((B.take k).length < 40) := h39
        clear hfair hno h39 hpb
        have hnil : endV 0 = .nilIface := by simp [endV]
        rw [hnil]
        clear r0 r1 r2 f0 f1 f2 hR2
        go_wp2_with fail
        refine (implTake (R + 1) (R + 1 + 1 + 1) (R + 1) (R + 1 + 1) va (B.take k) (accB (B.take k)) id s m cm L _ (HTK.out.below k2) (HLK.out.keep k2) HL39.out (by omega) HBZ.out HNO.out HZ.out (Nat.le_refl _) (by omega) (Nat.le_trans hRwr k2.size)).mono ?_
        rintro e w3 ⟨va', rfl, hT3, hb3⟩
        have HT3 : Hid (TallyAt w3 (R + 1 + 1 + 1) (R + 1) (R + 1 + 1) va' (B.take k ++ [(id, L)]) (B.take k ++ [(id, L)]) [] (accL (accB (B.take k)) L)) := hT3
        have HB3 : Hid (Below (R + 1) W w3) := (HBK.out.trans (k2.mono hRwr)).trans hb3
        clear hT3 hb3 k2 p0 p1 hpz
        go_wp2
        go_roundw
        case rel =>
          refine ⟨k + 1, va', by omega, by go_num, ?_, HB3.out, ?_⟩
          · rw [take_snocB HGK.out, accB_snoc]; exact HT3.out
          · rw [okUp_take HGK.out, HOK.out]; simp [HC.out]
        case measure => simp [intOf]; omega
      · have hif : endV c = .iface 159 (.agg #[.int .i64 c]) := by simp [endV, hc0]
        rw [hif]
        have hB2 : Below w.heap.size w w2 := HB.out.trans (k2.mono HB.out.size)
        have hRle : w.heap.size ≤ R := by rw [HR.out]; exact Nat.le_refl _
        go_wp2
        refine bodyPost_ret (v := .tuple #[.agg #[.map none, .map none, .slice none 0 0], .iface 159 (.agg #[.int .i64 c])]) (by simp [results, Tryd.results86, go_sem, r0, r1, r2]) rfl (Or.inr ⟨bookB_false HGK.out (by rw [HC.out]; exact hc0), c, hc0, rfl, ?_⟩)
        exact ((hB2.setCell (p := ⟨R, 0, none⟩) hRle _).setCell (p := ⟨R, 1, none⟩) hRle _).setCell (p := ⟨R, 2, none⟩) hRle _
    · have hkn : k = n := by omega
      subst hkn
      obtain ⟨av, cv, rfl⟩ := row_slice Tk.row
      have HTK : Hid (TallyAt wr (R + 1 + 1 + 1) (R + 1) (R + 1 + 1) (.slice av (accB (B.take k)).length cv) (B.take k) (B.take k) [] (accB (B.take k))) := Tk
      have t0 := Tk.c0
      have t1 := Tk.c1
      have t2 := Tk.c2
      have hTz := World.block_lt_of_cell? _ _ t0
      have hRz := World.block_lt_of_cell? _ _ q0
      have f0 := qf 0
      have f1 := qf 1
      have f2 := qf 2
      clear Tk qf
      have hRle : w.heap.size ≤ R := by rw [HR.out]; exact Nat.le_refl _
      have HALL : Hid (B.take k = B) := List.take_of_length_le (by rw [HLEN.out]; exact Nat.le_refl _)
      have HBB : Hid (bookB B = true) := by show okUp B B.length = true; rw [HLEN.out]; exact HOK.out
      have HWR : Hid (Below w.heap.size w wr) := hb
      clear hb hbk
      go_wp2
      refine bodyPost_ret (v := .tuple #[.agg #[.map (some (R + 1)), .map (some (R + 1 + 1)), .slice av (accB (B.take k)).length cv], .nilIface]) (by simp [results, Tryd.results86, go_sem, q0, q1, q2]) rfl (Or.inl ⟨HBB.out, R + 1 + 1 + 1, R + 1, R + 1 + 1, .slice av (accB (B.take k)).length cv, rfl, ?_, by omega, by omega, ?_⟩)
      · have hg : wr.grownBy (((wr.setCell ⟨R, 0, none⟩ (.map (some (R + 1)))).setCell ⟨R, 1, none⟩ (.map (some (R + 1 + 1)))).setCell ⟨R, 2, none⟩ (.slice av (accB (B.take k)).length cv)) (some R) := grown_tr (grown_tr (grown_set _ _ _ _) (grown_set _ _ _ _)) (grown_set _ _ _ _)
        have := HTK.out.grown hg (by first | (simp; done) | (simp; omega)) (by first | (simp; done) | (simp; omega)) (by first | (simp; done) | (simp; omega)) (row_far HTK.out.row (by omega))
        rw [HALL.out] at this ⊢
        exact this
      · exact ((HWR.out.setCell (p := ⟨R, 0, none⟩) hRle _).setCell (p := ⟨R, 1, none⟩) hRle _).setCell (p := ⟨R, 2, none⟩) hRle _
end Go.Proofs.YtfblpbihpmhgjaaDoor
