/-
  The walk of the law FnRunMay: it answers true at all bytes: a run never says that it has not a key that it has.
-/
import Derived.Test.YtkhnknpacdmikaaDrawMay
import Derived.Test.YtkhnknpacdmikaaRunMayI
import Derived.Test.YtkhnknpacdmikaaRunMayS
import Derived.Test.YtkhnknpacdmikaaFindO
namespace Go.Proofs.Ytkhnknpacdmikaa
open Go.RowKit

/-- The run that was drawn, in its box. -/
structure LawSt (w wi : World) (Y g n c : Nat) (m : Int) (L : List EntD) : Prop where
  all : Below w.heap.size w wi
  y0 : wi.cell? ⟨Y, 0, none⟩ = some (.slice (some ⟨g, 0, none⟩) n c)
  y1 : wi.cell? ⟨Y, 1, none⟩ = some (.int .i64 m)
  own : EntsAt wi (some ⟨g, 0, none⟩) n c L
theorem LawSt.below {w wi wj : World} {Y g n c : Nat} {m : Int} {L : List EntD} (h : LawSt w wi Y g n c m L) (hb : Below wi.heap.size wi wj) : LawSt w wj Y g n c m L :=
  ⟨h.all.trans (hb.mono h.all.size), cell_later hb h.y0, cell_later hb h.y1, h.own.keep hb⟩
theorem LawSt.ltY {w wi : World} {Y g n c : Nat} {m : Int} {L : List EntD} (h : LawSt w wi Y g n c m L) : Y < wi.heap.size := World.block_lt_of_cell? _ _ h.y0

set_option maxRecDepth 100000 in
set_option maxHeartbeats 4000000 in
theorem walkFnRunMay (a : Option Addr) (len cap : Nat) (w : World) (h : BytesAt w a len cap) :
    Calls Try.prog 4 #[.slice a len cap] w fun e w' => e = .returned (.bool true) ∧ Below w.heap.size w w' := by
  have H : Hid (BytesAt w a len cap) := h
  have hm := Nat.le_trans h.1 h.2.1
  unfold maxLen at hm
  clear h
  by_cases hbig : 1048576 < len
  · go_enter Try.func4, Try.ntmps4
    go_wp2
    go_ret
    exact ⟨rfl, Below.refl _ _⟩
  go_enter Try.func4, Try.ntmps4
  go_wp2_with fail
  refine (drawMay_any a len cap w H.out).mono ?_
  rintro e w1 ⟨g, n, c, m, L, key, rfl, hO, hn, hF, hM, hK, hb1⟩
  have hkey : key.size ≤ maxLen := by unfold Few at hK; unfold maxLen; omega
  obtain ⟨Y, hY⟩ : ∃ Y, Y = w1.heap.size := ⟨_, rfl⟩
  obtain ⟨W, hW⟩ : ∃ W, W = w1.alloc (.cells #[.slice (some ⟨g, 0, none⟩) n c, .int .i64 m] 26) := ⟨_, rfl⟩
  have kW : Below w1.heap.size w1 W := by rw [hW]; exact (Below.refl _ _).alloc (Nat.le_refl _) _
  have HSW : Hid (LawSt w W Y g n c m L) := ⟨hb1.trans (kW.mono hb1.size), by rw [hW, hY]; simp, by rw [hW, hY]; simp, hO.entsAt.keep kW⟩
  have HEW : Hid (∀ e ∈ L, EntW e) := hO.ents
  have HLN : Hid (L.length = n) := hO.len
  obtain ⟨B, hB⟩ : ∃ B, B = mayB L m key := ⟨_, rfl⟩
  obtain ⟨O, hOk⟩ : ∃ O, O = runB L m := ⟨_, rfl⟩
  have CMI : Hid (∀ w', LawSt w w' Y g n c m L → Calls Try.prog 16 #[.agg #[.slice (some ⟨g, 0, none⟩) n c, .int .i64 m], .string key] w' fun e w'' => e = .returned (.bool B) ∧ Below w'.heap.size w' w'') := by rw [hB]; exact fun w' k => implMay _ _ _ L m key w' k.own hkey
  have CMS : Hid (∀ w', LawSt w w' Y g n c m L → Calls Try.prog 17 #[.agg #[.slice (some ⟨g, 0, none⟩) n c, .int .i64 m], .string key] w' fun e w'' => e = .returned (.bool B) ∧ Below w'.heap.size w' w'') := by rw [hB]; exact fun w' k => specMay _ _ _ L m key w' k.own hkey
  have COI : Hid (∀ w', LawSt w w' Y g n c m L → Calls Try.prog 14 #[.agg #[.slice (some ⟨g, 0, none⟩) n c, .int .i64 m]] w' fun e w'' => e = .returned (.bool O) ∧ Below w'.heap.size w' w'') := by rw [hOk]; exact fun w' k => implRunOk _ _ _ L m w' k.own
  have COS : Hid (∀ w', LawSt w w' Y g n c m L → Calls Try.prog 18 #[.agg #[.slice (some ⟨g, 0, none⟩) n c, .int .i64 m]] w' fun e w'' => e = .returned (.bool O) ∧ Below w'.heap.size w' w'') := by rw [hOk]; exact fun w' k => specRunOk _ _ _ L m w' k.own
  have CME : Hid (∀ w' (i : Nat) (e : EntD), L[i]? = some e → O = true → LawSt w w' Y g n c m L → Calls Try.prog 16 #[.agg #[.slice (some ⟨g, 0, none⟩) n c, .int .i64 m], .string e.1] w' fun e w'' => e = .returned (.bool true) ∧ Below w'.heap.size w' w'') := by
    rw [hOk]
    intro w' i e he ho k
    have hmem := List.mem_of_getElem? he
    rw [← may_mem ho hmem]
    exact implMay _ _ _ L m e.1 w' k.own (HEW.out e hmem).1
  have HBE : Hid (∀ (i : Nat) (e : EntD), L[i]? = some e → O = true → e.1 = key → B = true) := by
    rw [hOk, hB]
    intro i e he ho hk
    rw [← hk]
    exact may_mem ho (List.mem_of_getElem? he)
  have HNO : Hid (O = false → B = false) := by
    rw [hOk, hB]
    intro ho
    simp [mayB, ho]
  have CF : Hid (B = false → ∀ w', LawSt w w' Y g n c m L → Calls Try.prog 19 #[.agg #[.slice (some ⟨g, 0, none⟩) n c, .int .i64 m], .string key, .int .i64 100000] w' fun e w'' => (∃ ag cg, e = .returned (.slice ag 0 cg)) ∧ Below w'.heap.size w' w'') := by
    rw [hB]
    intro hbf w' k
    refine (implFind _ _ _ L m key 100000 w' k.own (by omega)).mono ?_
    rintro e w'' hfv
    obtain ⟨ag, ng, cg, rfl, hO5, hb5⟩ := foundV_own hfv
    have : ng = 0 := by
      have h1 := hO5.len
      have h2 : foundL L m key 100000 = [] := by unfold foundL; split <;> first | rfl | (rename_i hrb; exact find_none hrb hbf _)
      rw [h2] at h1
      exact h1.symm
    subst this
    exact ⟨⟨ag, cg, rfl⟩, hb5⟩
  clear hB hOk hO hb1 hF hM hK hkey HEW
  have v0 := HSW.out.y0
  have v1 := HSW.out.y1
  have zW := HSW.out.ltY
  go_wp2_with fail
  rw [← hW, ← hY]
  clear hW hY kW v0 v1 zW
  refine (CMI.out _ HSW.out).mono ?_
  rintro e w3 ⟨rfl, hb3⟩
  have HS : Hid (LawSt w w3 Y g n c m L) := HSW.out.below hb3
  clear hb3 HSW CMI
  go_wp2_with fail
  have k0 : Below w3.heap.size w3 w3.drew := (Below.refl _ w3).drew
  have HMK : Hid (∀ w', Below w3.heap.size w3 w' → (w'.cell? ⟨Y, 0, none⟩ = some (.slice (some ⟨g, 0, none⟩) n c) ∧ w'.cell? ⟨Y, 1, none⟩ = some (.int .i64 m) ∧ Y < w'.heap.size)) := fun w' kk => ⟨cell_later kk HS.out.y0, cell_later kk HS.out.y1, Nat.lt_of_lt_of_le HS.out.ltY kk.size⟩
  refine wp_region_held_drew (S := (fun w' => w'.cell? ⟨Y, 0, none⟩ = some (.slice (some ⟨g, 0, none⟩) n c) ∧ w'.cell? ⟨Y, 1, none⟩ = some (.int .i64 m) ∧ Y < w'.heap.size)) (by kernel_rfl) (HMK.out _ k0) (fun hHeld => ?_)
  refine wpAnyH_takeL (i := 0) (v := ?_) rfl (by kernel_rfl) (by kernel_rfl) (by kernel_rfl) (fun _ _ _ h => h) (Or.inl ⟨by rfl, ?_⟩) hHeld ?_
  rotate_left
  · (intro w hSw; (try dsimp only at hSw); go_simp; try with_reducible rfl)
  try go_frame
  refine wpAnyH_takeL (i := 1) (v := ?_) rfl (by kernel_rfl) (by kernel_rfl) (by kernel_rfl) (fun _ _ _ h => h) (Or.inl ⟨by rfl, ?_⟩) hHeld ?_
  rotate_left
  · (intro w hSw; (try dsimp only at hSw); go_simp; try with_reducible rfl)
  try go_frame
  refine wpAnyH_takeL (i := 2) (v := ?_) rfl (by kernel_rfl) (by kernel_rfl) (by kernel_rfl) (fun _ _ _ h => h) (Or.inl ⟨by rfl, ?_⟩) hHeld ?_
  rotate_left
  · (intro w hSw; (try dsimp only at hSw); go_simp; try with_reducible rfl)
  try go_frame
  refine wpAnyH_ready (rs := [3]) (by kernel_rfl) (by simp) ?_
  refine consL rfl (fun K hK => ?_) AllReadyH.nil
  go_simp
  refine (CMS.out _ (HS.out.below k0)).mono ?_
  rintro e wk1 ⟨rfl, bk1⟩
  have k1 : Below w3.heap.size w3 wk1 := k0.trans (bk1.mono k0.size)
  go_wp2_with fail
  refine hK.out _ _ (HMK.out _ k1) (fun hHeld => ?_)
  clear hK K
  try go_frame
  refine wpAnyH_takeL (i := 4) (v := ?_) rfl (by kernel_rfl) (by kernel_rfl) (by kernel_rfl) (fun _ _ _ h => h) (Or.inl ⟨by rfl, ?_⟩) hHeld ?_
  rotate_left
  · (intro w hSw; (try dsimp only at hSw); go_simp; try with_reducible rfl)
  try go_frame
  refine wpAnyH_takeL (i := 5) (v := ?_) rfl (by kernel_rfl) (by kernel_rfl) (by kernel_rfl) (fun _ _ _ h => h) (Or.inl ⟨by rfl, ?_⟩) hHeld ?_
  rotate_left
  · (intro w hSw; (try dsimp only at hSw); go_simp; try with_reducible rfl)
  try go_frame
  refine wpAnyH_takeL (i := 6) (v := ?_) rfl (by kernel_rfl) (by kernel_rfl) (by kernel_rfl) (fun _ _ _ h => h) (Or.inl ⟨by rfl, ?_⟩) hHeld ?_
  rotate_left
  · (intro w hSw; (try dsimp only at hSw); go_simp; try with_reducible rfl)
  try go_frame
  refine wpAnyH_takeL (i := 8) (v := ?_) rfl (by kernel_rfl) (by kernel_rfl) (by kernel_rfl) (fun _ _ _ h => h) (Or.inl ⟨by rfl, ?_⟩) hHeld ?_
  rotate_left
  · (intro w hSw; (try dsimp only at hSw); go_simp; try with_reducible rfl)
  try go_frame
  refine wpAnyH_ready (rs := [7]) (by kernel_rfl) (by simp) ?_
  refine consL rfl (fun K hK => ?_) AllReadyH.nil
  go_simp
  refine (COI.out _ (HS.out.below k1)).mono ?_
  rintro e wk2 ⟨rfl, bk2⟩
  have k2 : Below w3.heap.size w3 wk2 := k1.trans (bk2.mono k1.size)
  go_wp2_with fail
  refine hK.out _ _ (HMK.out _ k2) (fun hHeld => ?_)
  clear hK K
  try go_frame
  refine wpAnyH_ready (rs := [9]) (by kernel_rfl) (by simp) ?_
  refine consL rfl (fun K hK => ?_) AllReadyH.nil
  go_simp
  refine (COS.out _ (HS.out.below k2)).mono ?_
  rintro e wk3 ⟨rfl, bk3⟩
  have k3 : Below w3.heap.size w3 wk3 := k2.trans (bk3.mono k2.size)
  go_wp2_with fail
  refine hK.out _ _ (HMK.out _ k3) (fun hHeld => ?_)
  clear hK K
  try go_frame
  refine wpAnyH_takeL (i := 10) (v := ?_) rfl (by kernel_rfl) (by kernel_rfl) (by kernel_rfl) (fun _ _ _ h => h) (Or.inl ⟨by rfl, ?_⟩) hHeld ?_
  rotate_left
  · (intro w hSw; (try dsimp only at hSw); go_simp; try with_reducible rfl)
  try go_frame
  refine wpAnyH_takeL (i := 11) (v := ?_) rfl (by kernel_rfl) (by kernel_rfl) (by kernel_rfl) (fun _ _ _ h => h) (Or.inl ⟨by rfl, ?_⟩) hHeld ?_
  rotate_left
  · (intro w hSw; (try dsimp only at hSw); go_simp; try with_reducible rfl)
  try go_frame
  refine wpAnyH_done (by kernel_rfl) ?_ _
  have HS5 : Hid (LawSt w wk3 Y g n c m L) := HS.out.below k3
  clear k0 k1 k2 k3 HMK HS hHeld bk1 bk2 bk3 CMS COI
  have v0 := HS5.out.y0
  have v1 := HS5.out.y1
  have zW := HS5.out.ltY
  go_wp2_with fail
  refine (COS.out _ HS5.out).mono ?_
  rintro e w6 ⟨rfl, hb6⟩
  have HS6 : Hid (LawSt w w6 Y g n c m L) := HS5.out.below hb6
  clear hb6 HS5 v0 v1 zW
  cases hO : O with
  | false =>
    have hBf := HNO.out hO
    subst hBf
    go_wp2
    go_ret
    exact ⟨rfl, HS6.out.all⟩
  | true =>
    have HOT : Hid (O = true) := hO
    clear hO
    go_wp2
    go_loopw [6] (fun iv wr => ∃ i : Nat, i ≤ n ∧ iv = .int .i64 i ∧ LawSt w wr Y g n c m L) (fun iv _ => n - (intOf iv).toNat)
    case atStart => exact ⟨0, Nat.zero_le _, rfl, HS6.out⟩
    case round =>
      obtain ⟨i, hi, rfl, hst⟩ := hrel
      have v0 := hst.y0
      have v1 := hst.y1
      have zW := hst.ltY
      by_cases hin : i < n
      · have hinI : (i : Int) < (n : Int) := by omega
        obtain ⟨s, q, d, t, nn, hg, _, g0, g1, g2, g3, g4⟩ := hst.own.ent (Below.refl _ wr) (hst.own.lies _ rfl (by omega)).1 i hin
        simp only [Nat.zero_add] at g0
        have HG : Hid (L[i]? = some (s, q, d, t, nn)) := hg
        have zg := World.block_lt_of_cell? _ _ g0
        simp only at zg
        have HST : Hid (LawSt w wr Y g n c m L) := hst
        clear hg g1 g2 g3 g4 hst
        go_wp2_with fail
        have k0 : Below wr.heap.size wr wr.drew := (Below.refl _ wr).drew
        have HMK : Hid (∀ w', Below wr.heap.size wr w' → (w'.cell? ⟨Y, 0, none⟩ = some (.slice (some ⟨g, 0, none⟩) n c) ∧ w'.cell? ⟨Y, 1, none⟩ = some (.int .i64 m) ∧ Y < w'.heap.size ∧ w'.cell? ⟨g, i * 5, none⟩ = some (.string s) ∧ g < w'.heap.size)) := fun w' kk => ⟨cell_later kk HST.out.y0, cell_later kk HST.out.y1, Nat.lt_of_lt_of_le HST.out.ltY kk.size, cell_later kk g0, Nat.lt_of_lt_of_le zg kk.size⟩
        by_cases hsk : s = key
        · have hBt := HBE.out i _ HG.out HOT.out hsk
          subst hsk hBt
          refine wp_region_held_drew (S := (fun w' => w'.cell? ⟨Y, 0, none⟩ = some (.slice (some ⟨g, 0, none⟩) n c) ∧ w'.cell? ⟨Y, 1, none⟩ = some (.int .i64 m) ∧ Y < w'.heap.size ∧ w'.cell? ⟨g, i * 5, none⟩ = some (.string s) ∧ g < w'.heap.size)) (by kernel_rfl) (HMK.out _ k0) (fun hHeld => ?_)
          refine wpAnyH_takeL (i := 0) (v := ?_) rfl (by kernel_rfl) (by kernel_rfl) (by kernel_rfl) (fun _ _ _ h => h) (Or.inl ⟨by rfl, ?_⟩) hHeld ?_
          rotate_left
          · (intro w hSw; (try dsimp only at hSw); go_simp; try with_reducible rfl)
          try go_frame
          refine wpAnyH_takeL (i := 1) (v := ?_) rfl (by kernel_rfl) (by kernel_rfl) (by kernel_rfl) (fun _ _ _ h => h) (Or.inl ⟨by rfl, ?_⟩) hHeld ?_
          rotate_left
          · (intro w hSw; (try dsimp only at hSw); go_simp; try with_reducible rfl)
          try go_frame
          refine wpAnyH_takeL (i := 2) (v := ?_) rfl (by kernel_rfl) (by kernel_rfl) (by kernel_rfl) (fun _ _ _ h => h) (Or.inl ⟨by rfl, ?_⟩) hHeld ?_
          rotate_left
          · (intro w hSw; (try dsimp only at hSw); go_simp; try with_reducible rfl)
          try go_frame
          refine wpAnyH_takeL (i := 3) (v := ?_) rfl (by kernel_rfl) (by kernel_rfl) (by kernel_rfl) (fun _ _ _ h => h) (Or.inl ⟨by rfl, ?_⟩) hHeld ?_
          rotate_left
          · (intro w hSw; (try dsimp only at hSw); go_simp; try with_reducible rfl)
          try go_frame
          refine wpAnyH_takeL (i := 4) (v := ?_) rfl (by kernel_rfl) (by kernel_rfl) (by kernel_rfl) (fun _ _ _ h => h) (Or.inl ⟨by rfl, ?_⟩) hHeld ?_
          rotate_left
          · (intro w hSw; (try dsimp only at hSw); go_simp; try with_reducible rfl)
          try go_frame
          refine wpAnyH_takeL (i := 5) (v := ?_) rfl (by kernel_rfl) (by kernel_rfl) (by kernel_rfl) (fun _ _ _ h => h) (Or.inl ⟨by rfl, ?_⟩) hHeld ?_
          rotate_left
          · (intro w hSw; (try dsimp only at hSw); go_simp; try with_reducible rfl)
          try go_frame
          refine wpAnyH_takeL (i := 6) (v := ?_) rfl (by kernel_rfl) (by kernel_rfl) (by kernel_rfl) (fun _ _ _ h => h) (Or.inl ⟨by rfl, ?_⟩) hHeld ?_
          rotate_left
          · (intro w hSw; (try dsimp only at hSw); go_simp; try with_reducible rfl)
          try go_frame
          refine wpAnyH_ready (rs := [7]) (by kernel_rfl) (by simp) ?_
          refine consL rfl (fun K hK => ?_) AllReadyH.nil
          go_simp
          refine (CME.out _ i _ HG.out HOT.out (HST.out.below k0)).mono ?_
          rintro e wk1 ⟨rfl, bk1⟩
          have k1 : Below wr.heap.size wr wk1 := k0.trans (bk1.mono k0.size)
          go_wp2_with fail
          refine hK.out _ _ (HMK.out _ k1) (fun hHeld => ?_)
          clear hK K
          try go_frame
          refine wpAnyH_takeL (i := 8) (v := ?_) rfl (by kernel_rfl) (by kernel_rfl) (by kernel_rfl) (fun _ _ _ h => h) (Or.inl ⟨by rfl, ?_⟩) hHeld ?_
          rotate_left
          · (intro w hSw; (try dsimp only at hSw); go_simp; try with_reducible rfl)
          try go_frame
          refine wpAnyH_takeL (i := 9) (v := ?_) rfl (by kernel_rfl) (by kernel_rfl) (by kernel_rfl) (fun _ _ _ h => h) (Or.inl ⟨by rfl, ?_⟩) hHeld ?_
          rotate_left
          · (intro w hSw; (try dsimp only at hSw); go_simp; try with_reducible rfl)
          try go_frame
          refine wpAnyH_takeL (i := 10) (v := ?_) rfl (by kernel_rfl) (by kernel_rfl) (by kernel_rfl) (fun _ _ _ h => h) (Or.inl ⟨by rfl, ?_⟩) hHeld ?_
          rotate_left
          · (intro w hSw; (try dsimp only at hSw); go_simp; try with_reducible rfl)
          try go_frame
          refine wpAnyH_takeL (i := 11) (v := ?_) rfl (by kernel_rfl) (by kernel_rfl) (by kernel_rfl) (fun _ _ _ h => h) (Or.inl ⟨by rfl, ?_⟩) hHeld ?_
          rotate_left
          · (intro w hSw; (try dsimp only at hSw); go_simp; try with_reducible rfl)
          try go_frame
          refine wpAnyH_takeL (i := 12) (v := ?_) rfl (by kernel_rfl) (by kernel_rfl) (by kernel_rfl) (fun _ _ _ h => h) (Or.inl ⟨by rfl, ?_⟩) hHeld ?_
          rotate_left
          · (intro w hSw; (try dsimp only at hSw); go_simp; try with_reducible rfl)
          try go_frame
          refine wpAnyH_takeL (i := 13) (v := ?_) rfl (by kernel_rfl) (by kernel_rfl) (by kernel_rfl) (fun _ _ _ h => h) (Or.inl ⟨by rfl, ?_⟩) hHeld ?_
          rotate_left
          · (intro w hSw; (try dsimp only at hSw); go_simp; try with_reducible rfl)
          try go_frame
          refine wpAnyH_takeL (i := 14) (v := ?_) rfl (by kernel_rfl) (by kernel_rfl) (by kernel_rfl) (fun _ _ _ h => h) (Or.inl ⟨by rfl, ?_⟩) hHeld ?_
          rotate_left
          · (intro w hSw; (try dsimp only at hSw); go_simp; try with_reducible rfl)
          try go_frame
          refine wpAnyH_takeL (i := 15) (v := ?_) rfl (by kernel_rfl) (by kernel_rfl) (by kernel_rfl) (fun _ _ _ h => h) (Or.inl ⟨by rfl, ?_⟩) hHeld ?_
          rotate_left
          · (intro w hSw; (try dsimp only at hSw); go_simp; try with_reducible rfl)
          try go_frame
          refine wpAnyH_takeL (i := 16) (v := ?_) rfl (by kernel_rfl) (by kernel_rfl) (by kernel_rfl) (fun _ _ _ h => h) (Or.inl ⟨by rfl, ?_⟩) hHeld ?_
          rotate_left
          · (intro w hSw; (try dsimp only at hSw); go_simp; try with_reducible rfl)
          try go_frame
          refine wpAnyH_takeL (i := 17) (v := ?_) rfl (by kernel_rfl) (by kernel_rfl) (by kernel_rfl) (fun _ _ _ h => h) (Or.inl ⟨by rfl, ?_⟩) hHeld ?_
          rotate_left
          · (intro w hSw; (try dsimp only at hSw); go_simp; try with_reducible rfl)
          try go_frame
          refine wpAnyH_takeL (i := 18) (v := ?_) rfl (by kernel_rfl) (by kernel_rfl) (by kernel_rfl) (fun _ _ _ h => h) (Or.inl ⟨by rfl, ?_⟩) hHeld ?_
          rotate_left
          · (intro w hSw; (try dsimp only at hSw); go_simp; try with_reducible rfl)
          try go_frame
          refine wpAnyH_takeL (i := 19) (v := ?_) rfl (by kernel_rfl) (by kernel_rfl) (by kernel_rfl) (fun _ _ _ h => h) (Or.inl ⟨by rfl, ?_⟩) hHeld ?_
          rotate_left
          · (intro w hSw; (try dsimp only at hSw); go_simp; try with_reducible rfl)
          try go_frame
          refine wpAnyH_takeL (i := 20) (v := ?_) rfl (by kernel_rfl) (by kernel_rfl) (by kernel_rfl) (fun _ _ _ h => h) (Or.inl ⟨by rfl, ?_⟩) hHeld ?_
          rotate_left
          · (intro w hSw; (try dsimp only at hSw); go_simp; try with_reducible rfl)
          try go_frame
          refine wpAnyH_takeL (i := 21) (v := ?_) rfl (by kernel_rfl) (by kernel_rfl) (by kernel_rfl) (fun _ _ _ h => h) (Or.inl ⟨by rfl, ?_⟩) hHeld ?_
          rotate_left
          · (intro w hSw; (try dsimp only at hSw); go_simp; try with_reducible rfl)
          try go_frame
          refine wpAnyH_takeL (i := 22) (v := ?_) rfl (by kernel_rfl) (by kernel_rfl) (by kernel_rfl) (fun _ _ _ h => h) (Or.inl ⟨by rfl, ?_⟩) hHeld ?_
          rotate_left
          · (intro w hSw; (try dsimp only at hSw); go_simp; try with_reducible rfl)
          try go_frame
          refine wpAnyH_done (by kernel_rfl) ?_ _
          have HST1 : Hid (LawSt w wk1 Y g n c m L) := HST.out.below k1
          clear k0 k1 HMK hHeld bk1 HST g0 zg v0 v1 zW
          go_wp2
          go_roundw
          case rel => exact ⟨i + 1, by omega, by go_num, HST1.out⟩
          case measure => simp [intOf]; omega
        · have hne : ¬ s.toList = key.toList := by
            rw [ByteArray.toList_eq, ByteArray.toList_eq]
            intro h
            exact hsk (ByteArray.ext (Array.toList_inj.1 h))
          have hne' : (s.toList == key.toList) = false := by simpa using hne
          clear hsk
          refine wp_region_held_drew (S := (fun w' => w'.cell? ⟨Y, 0, none⟩ = some (.slice (some ⟨g, 0, none⟩) n c) ∧ w'.cell? ⟨Y, 1, none⟩ = some (.int .i64 m) ∧ Y < w'.heap.size ∧ w'.cell? ⟨g, i * 5, none⟩ = some (.string s) ∧ g < w'.heap.size)) (by kernel_rfl) (HMK.out _ k0) (fun hHeld => ?_)
          refine wpAnyH_takeL (i := 0) (v := ?_) rfl (by kernel_rfl) (by kernel_rfl) (by kernel_rfl) (fun _ _ _ h => h) (Or.inl ⟨by rfl, ?_⟩) hHeld ?_
          rotate_left
          · (intro w hSw; (try dsimp only at hSw); go_simp; try with_reducible rfl)
          try go_frame
          refine wpAnyH_takeL (i := 1) (v := ?_) rfl (by kernel_rfl) (by kernel_rfl) (by kernel_rfl) (fun _ _ _ h => h) (Or.inl ⟨by rfl, ?_⟩) hHeld ?_
          rotate_left
          · (intro w hSw; (try dsimp only at hSw); go_simp; try with_reducible rfl)
          try go_frame
          refine wpAnyH_takeL (i := 2) (v := ?_) rfl (by kernel_rfl) (by kernel_rfl) (by kernel_rfl) (fun _ _ _ h => h) (Or.inl ⟨by rfl, ?_⟩) hHeld ?_
          rotate_left
          · (intro w hSw; (try dsimp only at hSw); go_simp; try with_reducible rfl)
          try go_frame
          refine wpAnyH_takeL (i := 3) (v := ?_) rfl (by kernel_rfl) (by kernel_rfl) (by kernel_rfl) (fun _ _ _ h => h) (Or.inl ⟨by rfl, ?_⟩) hHeld ?_
          rotate_left
          · (intro w hSw; (try dsimp only at hSw); go_simp; try with_reducible rfl)
          try go_frame
          refine wpAnyH_takeL (i := 4) (v := ?_) rfl (by kernel_rfl) (by kernel_rfl) (by kernel_rfl) (fun _ _ _ h => h) (Or.inl ⟨by rfl, ?_⟩) hHeld ?_
          rotate_left
          · (intro w hSw; (try dsimp only at hSw); go_simp; try with_reducible rfl)
          try go_frame
          refine wpAnyH_takeL (i := 5) (v := ?_) rfl (by kernel_rfl) (by kernel_rfl) (by kernel_rfl) (fun _ _ _ h => h) (Or.inl ⟨by rfl, ?_⟩) hHeld ?_
          rotate_left
          · (intro w hSw; (try dsimp only at hSw); go_simp; try with_reducible rfl)
          try go_frame
          refine wpAnyH_takeL (i := 6) (v := ?_) rfl (by kernel_rfl) (by kernel_rfl) (by kernel_rfl) (fun _ _ _ h => h) (Or.inl ⟨by rfl, ?_⟩) hHeld ?_
          rotate_left
          · (intro w hSw; (try dsimp only at hSw); go_simp; try with_reducible rfl)
          try go_frame
          refine wpAnyH_ready (rs := [7]) (by kernel_rfl) (by simp) ?_
          refine consL rfl (fun K hK => ?_) AllReadyH.nil
          go_simp
          refine (CME.out _ i _ HG.out HOT.out (HST.out.below k0)).mono ?_
          rintro e wk1 ⟨rfl, bk1⟩
          have k1 : Below wr.heap.size wr wk1 := k0.trans (bk1.mono k0.size)
          go_wp2_with fail
          refine hK.out _ _ (HMK.out _ k1) (fun hHeld => ?_)
          clear hK K
          try go_frame
          refine wpAnyH_takeL (i := 8) (v := ?_) rfl (by kernel_rfl) (by kernel_rfl) (by kernel_rfl) (fun _ _ _ h => h) (Or.inl ⟨by rfl, ?_⟩) hHeld ?_
          rotate_left
          · (intro w hSw; (try dsimp only at hSw); go_simp; try with_reducible rfl)
          try go_frame
          refine wpAnyH_takeL (i := 9) (v := ?_) rfl (by kernel_rfl) (by kernel_rfl) (by kernel_rfl) (fun _ _ _ h => h) (Or.inl ⟨by rfl, ?_⟩) hHeld ?_
          rotate_left
          · (intro w hSw; (try dsimp only at hSw); go_simp; try with_reducible rfl)
          try go_frame
          refine wpAnyH_takeL (i := 10) (v := ?_) rfl (by kernel_rfl) (by kernel_rfl) (by kernel_rfl) (fun _ _ _ h => h) (Or.inl ⟨by rfl, ?_⟩) hHeld ?_
          rotate_left
          · (intro w hSw; (try dsimp only at hSw); go_simp; try with_reducible rfl)
          try go_frame
          refine wpAnyH_takeL (i := 11) (v := ?_) rfl (by kernel_rfl) (by kernel_rfl) (by kernel_rfl) (fun _ _ _ h => h) (Or.inl ⟨by rfl, ?_⟩) hHeld ?_
          rotate_left
          · (intro w hSw; (try dsimp only at hSw); go_simp; try with_reducible rfl)
          try go_frame
          refine wpAnyH_takeL (i := 12) (v := ?_) rfl (by kernel_rfl) (by kernel_rfl) (by kernel_rfl) (fun _ _ _ h => h) (Or.inl ⟨by rfl, ?_⟩) hHeld ?_
          rotate_left
          · (intro w hSw; (try dsimp only at hSw); go_simp; try with_reducible rfl)
          try go_frame
          refine wpAnyH_takeL (i := 13) (v := ?_) rfl (by kernel_rfl) (by kernel_rfl) (by kernel_rfl) (fun _ _ _ h => h) (Or.inl ⟨by rfl, ?_⟩) hHeld ?_
          rotate_left
          · (intro w hSw; (try dsimp only at hSw); go_simp; try with_reducible rfl)
          try go_frame
          refine wpAnyH_takeL (i := 14) (v := ?_) rfl (by kernel_rfl) (by kernel_rfl) (by kernel_rfl) (fun _ _ _ h => h) (Or.inl ⟨by rfl, ?_⟩) hHeld ?_
          rotate_left
          · (intro w hSw; (try dsimp only at hSw); go_simp; try with_reducible rfl)
          try go_frame
          refine wpAnyH_takeL (i := 15) (v := ?_) rfl (by kernel_rfl) (by kernel_rfl) (by kernel_rfl) (fun _ _ _ h => h) (Or.inl ⟨by rfl, ?_⟩) hHeld ?_
          rotate_left
          · (intro w hSw; (try dsimp only at hSw); go_simp; try with_reducible rfl)
          try go_frame
          refine wpAnyH_takeL (i := 16) (v := ?_) rfl (by kernel_rfl) (by kernel_rfl) (by kernel_rfl) (fun _ _ _ h => h) (Or.inl ⟨by rfl, ?_⟩) hHeld ?_
          rotate_left
          · (intro w hSw; (try dsimp only at hSw); go_simp; try with_reducible rfl)
          try go_frame
          refine wpAnyH_takeL (i := 17) (v := ?_) rfl (by kernel_rfl) (by kernel_rfl) (by kernel_rfl) (fun _ _ _ h => h) (Or.inl ⟨by rfl, ?_⟩) hHeld ?_
          rotate_left
          · (intro w hSw; (try dsimp only at hSw); go_simp; try with_reducible rfl)
          try go_frame
          refine wpAnyH_takeL (i := 18) (v := ?_) rfl (by kernel_rfl) (by kernel_rfl) (by kernel_rfl) (fun _ _ _ h => h) (Or.inl ⟨by rfl, ?_⟩) hHeld ?_
          rotate_left
          · (intro w hSw; (try dsimp only at hSw); go_simp; try with_reducible rfl)
          try go_frame
          refine wpAnyH_takeL (i := 19) (v := undef) rfl (by kernel_rfl) (by kernel_rfl) (by kernel_rfl) (fun _ _ _ h => h) (Or.inr ⟨by rfl, rfl⟩) hHeld ?_
          try go_frame
          refine wpAnyH_takeL (i := 20) (v := undef) rfl (by kernel_rfl) (by kernel_rfl) (by kernel_rfl) (fun _ _ _ h => h) (Or.inr ⟨by rfl, rfl⟩) hHeld ?_
          try go_frame
          refine wpAnyH_takeL (i := 21) (v := ?_) rfl (by kernel_rfl) (by kernel_rfl) (by kernel_rfl) (fun _ _ _ h => h) (Or.inl ⟨by rfl, ?_⟩) hHeld ?_
          rotate_left
          · (intro w hSw; (try dsimp only at hSw); go_simp; try with_reducible rfl)
          try go_frame
          refine wpAnyH_takeL (i := 22) (v := ?_) rfl (by kernel_rfl) (by kernel_rfl) (by kernel_rfl) (fun _ _ _ h => h) (Or.inl ⟨by rfl, ?_⟩) hHeld ?_
          rotate_left
          · (intro w hSw; (try dsimp only at hSw); go_simp; try with_reducible rfl)
          try go_frame
          refine wpAnyH_done (by kernel_rfl) ?_ _
          have HST1 : Hid (LawSt w wk1 Y g n c m L) := HST.out.below k1
          clear k0 k1 HMK hHeld bk1 HST g0 zg v0 v1 zW
          go_wp2
          go_roundw
          case rel => exact ⟨i + 1, by omega, by go_num, HST1.out⟩
          case measure => simp [intOf]; omega
      · have hinI : ¬ (i : Int) < (n : Int) := by omega
        have HST : Hid (LawSt w wr Y g n c m L) := hst
        clear hst
        cases hBB : B with
        | true =>
          go_wp2
          go_ret
          exact ⟨rfl, HST.out.all⟩
        | false =>
          go_wp2_with fail
          refine (CF.out hBB _ HST.out).mono ?_
          rintro e w9 ⟨⟨ag, cg, rfl⟩, hb9⟩
          have HB9 : Hid (Below w.heap.size w w9) := (HST.out.below hb9).all
          clear hb9 HST
          go_wp2
          go_ret
          exact ⟨rfl, HB9.out⟩
end Go.Proofs.Ytkhnknpacdmikaa
