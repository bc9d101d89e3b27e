/-
  The walk of the law FnExactRunFind: it answers true at every run, every text and every number.
-/
import Derived.Test.YtdedonabfjmfpaaOwnO
namespace Go.Proofs.Ytdedonabfjmfpaa
open Go.RowKit

/-- What lies where, between two calls of the law. -/
structure FindSt (w wi : World) (X XB bx gw : Nat) (ag a : Option Addr) (len cap nF cw cg : Nat) (m : Int) (LX F G : List EntD) : Prop where
  low : Below w.heap.size w wi
  x0 : wi.cell? ⟨X, 0, none⟩ = some (.slice a len cap)
  x1 : wi.cell? ⟨X, 1, none⟩ = some (.int .i64 m)
  y0 : wi.cell? ⟨XB, 0, none⟩ = some (.slice (some ⟨bx, 0, none⟩) len len)
  y1 : wi.cell? ⟨XB, 1, none⟩ = some (.int .i64 m)
  ox : OwnE wi w.heap.size bx len len LX
  ow : OwnE wi w.heap.size gw nF cw F
  og : OwnO wi w.heap.size ag nF cg G
theorem FindSt.ltX {w wi : World} {X XB bx gw : Nat} {ag a : Option Addr} {len cap nF cw cg : Nat} {m : Int} {LX F G : List EntD} (h : FindSt w wi X XB bx gw ag a len cap nF cw cg m LX F G) : X < wi.heap.size := World.block_lt_of_cell? _ _ h.x0
theorem FindSt.ltB {w wi : World} {X XB bx gw : Nat} {ag a : Option Addr} {len cap nF cw cg : Nat} {m : Int} {LX F G : List EntD} (h : FindSt w wi X XB bx gw ag a len cap nF cw cg m LX F G) : XB < wi.heap.size := World.block_lt_of_cell? _ _ h.y0
theorem FindSt.below {w wi wj : World} {X XB bx gw : Nat} {ag a : Option Addr} {len cap nF cw cg : Nat} {m : Int} {LX F G : List EntD} (h : FindSt w wi X XB bx gw ag a len cap nF cw cg m LX F G) (hb : Below wi.heap.size wi wj) : FindSt w wj X XB bx gw ag a len cap nF cw cg m LX F G :=
  ⟨h.low.trans (hb.mono h.low.size), cell_later hb h.x0, cell_later hb h.x1, cell_later hb h.y0, cell_later hb h.y1, h.ox.below hb, h.ow.below hb, h.og.below hb⟩
theorem FindSt.markX {w wi wj : World} {X XB bx gw : Nat} {ag a : Option Addr} {len cap nF cw cg : Nat} {m : Int} {LX LX' F G : List EntD} (h : FindSt w wi X XB bx gw ag a len cap nF cw cg m LX F G) (hg : wi.grownBy wj (some bx)) (hx : OwnE wj w.heap.size bx len len LX') (n1 : X ≠ bx) (n2 : XB ≠ bx) (n3 : gw ≠ bx) (n4 : ∀ x, ag = some x → x.block ≠ bx) : FindSt w wj X XB bx gw ag a len cap nF cw cg m LX' F G :=
  ⟨h.low.grown hg h.low.size (fun k e => by cases e; exact h.ox.lt.1), (grown_cell hg (x := ⟨X, 0, none⟩) h.ltX n1).trans h.x0, (grown_cell hg (x := ⟨X, 1, none⟩) h.ltX n1).trans h.x1, (grown_cell hg (x := ⟨XB, 0, none⟩) h.ltB n2).trans h.y0, (grown_cell hg (x := ⟨XB, 1, none⟩) h.ltB n2).trans h.y1, hx, h.ow.grown hg (fun e => n3 (by cases e; rfl)), h.og.grown hg (fun x e e' => n4 x e (by cases e'; rfl))⟩
theorem FindSt.markG {w wi wj : World} {X XB bx gw : Nat} {ag a : Option Addr} {len cap nF cw cg : Nat} {m : Int} {LX F G G' : List EntD} (h : FindSt w wi X XB bx gw ag a len cap nF cw cg m LX F G) (hg : wi.grownBy wj (ag.map Addr.block)) (hx : OwnO wj w.heap.size ag nF cg G') (n1 : ∀ x, ag = some x → x.block ≠ X ∧ x.block ≠ XB ∧ x.block ≠ gw ∧ x.block ≠ bx) : FindSt w wj X XB bx gw ag a len cap nF cw cg m LX F G' := by
  have key : ∀ Y, (∀ x, ag = some x → x.block ≠ Y) → some Y ≠ ag.map Addr.block := fun Y hY e => by
    cases hag : ag with
    | none => rw [hag] at e; cases e
    | some x => rw [hag] at e; exact hY x hag (by simpa using e.symm)
  refine ⟨h.low.grown hg h.low.size (fun k e => ?_), hg.cell h.x0 (key X fun x e => (n1 x e).1), hg.cell h.x1 (key X fun x e => (n1 x e).1), hg.cell h.y0 (key XB fun x e => (n1 x e).2.1), hg.cell h.y1 (key XB fun x e => (n1 x e).2.1), h.ox.grown hg (key bx fun x e => (n1 x e).2.2.2), h.ow.grown hg (key gw fun x e => (n1 x e).2.2.1), hx⟩
  cases hag : ag with
  | none => rw [hag] at e; cases e
  | some x => rw [hag] at e; have := (h.og.lt x hag).1; cases e; exact this

set_option maxRecDepth 100000 in
set_option maxHeartbeats 4000000 in
theorem walkFnExactRunFind (a : Option Addr) (len cap : Nat) (L : List EntD) (m : Int) (key : ByteArray) (seq : Int) (w : World) (h : (Lit.int .i64 m).wf = true ∧ EntsAt w a len cap L) (hs : key.size ≤ maxLen) (_hq : (Lit.int .i64 seq).wf = true) :
    Calls Try.prog 7 #[.agg #[.slice a len cap, .int .i64 m], .string key, .int .i64 seq] w fun e w' => e = .returned (.bool true) ∧ Below w.heap.size w w' := by
  have HL : Hid (EntsAt w a len cap L) := h.2
  have HLN : Hid (L.length = len) := h.2.length
  clear h
  have hs' := hs
  unfold maxLen at hs'
  obtain ⟨F, hF⟩ : ∃ F, F = foundL L m key seq := ⟨_, rfl⟩
  have HFL : Hid (F.length ≤ L.length) := by rw [hF]; exact found_len _ _ _ _
  have CS : Hid (∀ (b : Nat) (w' : World), EntsAt w' (some ⟨b, 0, none⟩) len len L → len ≤ 1048576 → Calls Try.prog 25 #[.agg #[.slice (some ⟨b, 0, none⟩) len len, .int .i64 m], .string key, .int .i64 seq] w' (FoundR F w')) := by rw [hF]; exact fun b w' h1 h2 => specFind _ _ _ L m key seq w' h1 h2
  have CI : Hid (∀ (b : Nat) (w' : World), EntsAt w' (some ⟨b, 0, none⟩) len len L → len ≤ 1048576 → Calls Try.prog 26 #[.agg #[.slice (some ⟨b, 0, none⟩) len len, .int .i64 m], .string key, .int .i64 seq] w' (FoundV F w')) := by rw [hF]; exact fun b w' h1 h2 => implFind _ _ _ L m key seq w' h1 h2
  clear hF
  have kA : Below w.heap.size w (w.alloc (.cells #[.slice a len cap, .int .i64 m] 26)) := (Below.refl _ _).alloc (Nat.le_refl _) _
  by_cases hbs : 1048576 < key.size
  · go_enter Try.func7, Try.ntmps7
    go_wp2
    go_ret
    exact ⟨rfl, kA⟩
  go_enter Try.func7, Try.ntmps7
  go_wp2_with fail
  refine (szRun_any _ _ _ _ L _ _ (HL.out.keep kA) (by omega) (by omega)).mono ?_
  rintro e w1 ⟨r, rfl, hr, hb1⟩
  have hx1 : w1.cell? ⟨w.heap.size, 0, none⟩ = some (.slice a len cap) := cell_later hb1 (by simp)
  have hy1 : w1.cell? ⟨w.heap.size, 1, none⟩ = some (.int .i64 m) := cell_later hb1 (by simp)
  have hB1 : Below w.heap.size w w1 := kA.trans (hb1.mono (by simp))
  clear hb1 kA
  rcases hr with rfl | ⟨hr0, hr1, hln⟩
  · go_wp2
    go_ret
    exact ⟨rfl, hB1⟩
  have hlen : len ≤ 1048576 := by omega
  clear hr1 hln
  obtain ⟨X, hX⟩ : ∃ X, X = w.heap.size := ⟨_, rfl⟩
  have HX : Hid (X = w.heap.size) := hX
  rw [← hX] at hx1 hy1 ⊢
  clear hX
  have hzx := World.block_lt_of_cell? _ _ hx1
  simp only at hzx
  go_wp2_with fail
  refine (toRun_any _ _ _ _ L _ (HL.out.keep hB1) hlen).mono ?_
  rintro e w2 ⟨b2, rfl, hg2, hlt2, hL2, hb2⟩
  have hx2 := cell_later hb2 hx1
  have hy2 := cell_later hb2 hy1
  have hB2 := hB1.trans (hb2.mono hB1.size)
  have HL2 : Hid (EntsAt w2 (some ⟨b2, 0, none⟩) len len L) := hL2
  have hz2 := World.block_lt_of_cell? _ _ hx2
  simp only at hz2
  clear hb2 hx1 hy1 hzx hg2 hlt2 hL2 hB1
  go_wp2_with fail
  refine (CS.out b2 _ HL2.out hlen).mono ?_
  rintro e w3 ⟨gw, nF, cw, rfl, hO3, hb3⟩
  have hx3 := cell_later hb3 hx2
  have hy3 := cell_later hb3 hy2
  have hB3 := hB2.trans (hb3.mono hB2.size)
  have HO3 : Hid (OwnE w3 w2.heap.size gw nF cw F) := hO3
  have hz3 := World.block_lt_of_cell? _ _ hx3
  simp only at hz3
  have hXg : X < gw := Nat.lt_of_lt_of_le hz2 hO3.lt.1
  have hwg : w.heap.size ≤ gw := Nat.le_trans hB2.size hO3.lt.1
  have hnF : nF ≤ 1048576 := by have := hO3.len; have := HFL.out; have := HLN.out; omega
  clear hb3 hx2 hy2 hz2 hO3
  go_wp2_with fail
  refine (toRun_own _ _ _ _ L _ (HL.out.keep hB3) hlen).mono ?_
  rintro e w4 ⟨bx, rfl, hg4, hlt4, hL4, hb4⟩
  have hx4 := cell_later hb4 hx3
  have hy4 := cell_later hb4 hy3
  have hB4 := hB3.trans (hb4.mono hB3.size)
  have hgw4 := HO3.out.lt.2
  have HO4 : Hid (OwnE w4 w.heap.size gw nF cw F) := (HO3.out.below hb4).mono hB2.size
  have HL4 : Hid (OwnE w4 w.heap.size bx len len L) := hL4.mono hB3.size
  have hz4 := World.block_lt_of_cell? _ _ hx4
  simp only at hz4
  have hgb : gw < bx := Nat.lt_of_lt_of_le hgw4 hg4
  clear hb4 hx3 hy3 hz3 hL4 HO3 hgw4 hB2 hg4
  obtain ⟨XB, hXB⟩ : ∃ XB, XB = w4.heap.size := ⟨_, rfl⟩
  obtain ⟨W, hW⟩ : ∃ W, W = w4.alloc (.cells #[.slice (some ⟨bx, 0, none⟩) len len, .int .i64 m] 31) := ⟨_, rfl⟩
  have kW : Below w4.heap.size w4 W := by rw [hW]; exact (Below.refl _ _).alloc (Nat.le_refl _) _
  have hxW := cell_later kW hx4
  have hyW := cell_later kW hy4
  have huW : W.cell? ⟨XB, 0, none⟩ = some (.slice (some ⟨bx, 0, none⟩) len len) := by rw [hW, hXB]; simp
  have hvW : W.cell? ⟨XB, 1, none⟩ = some (.int .i64 m) := by rw [hW, hXB]; simp
  have hBW := hB4.trans (kW.mono hB4.size)
  have hbxX : bx < XB := by rw [hXB]; exact hlt4
  have HOW : Hid (OwnE W w.heap.size gw nF cw F) := HO4.out.below kW
  have HLW : Hid (OwnE W w.heap.size bx len len L) := HL4.out.below kW
  have hzW := World.block_lt_of_cell? _ _ hxW
  have hzW' := World.block_lt_of_cell? _ _ huW
  simp only at hzW hzW'
  clear hx4 hy4 HO4 HL4 kW hlt4 hz4 hB4
  go_wp2_with fail
  rw [← hW, ← hXB]
  clear hW hXB hB3
  refine (CI.out bx _ HLW.out.entsAt hlen).mono ?_
  rintro e w5 hfv
  obtain ⟨ag, ng, cg, rfl, hO5, hb5⟩ := foundV_own hfv
  obtain rfl : ng = nF := by have h1 := hO5.len; have h2 := HOW.out.len; omega
  have hagl := hO5.lt
  have HN : Hid (∀ x, ag = some x → x.block ≠ X ∧ x.block ≠ XB ∧ x.block ≠ gw ∧ x.block ≠ bx) := fun x e => by have := (hagl x e).1; omega
  have HS5 : Hid (FindSt w w5 X XB bx gw ag a len cap ng cw cg m L F F) := ⟨hBW.trans (hb5.mono hBW.size), cell_later hb5 hxW, cell_later hb5 hyW, cell_later hb5 huW, cell_later hb5 hvW, HLW.out.below hb5, HOW.out.below hb5, hO5.mono hBW.size⟩
  clear hfv hO5 hb5 hxW hyW huW hvW hBW HOW HLW hagl hzW hzW'
  have n1 : X ≠ bx := by omega
  have n2 : XB ≠ bx := by omega
  have n3 : gw ≠ bx := by omega
  have HN1 : Hid (X ≠ bx ∧ XB ≠ bx ∧ gw ≠ bx) := ⟨n1, n2, n3⟩
  clear n1 n2 n3 hXg hwg hgb hbxX
  go_wp2_with fail
  refine (eqEntS_opt _ _ _ _ _ F _ HS5.out.og.entsAt HS5.out.ow.entsAt).mono ?_
  rintro e w6 ⟨rfl, hb6⟩
  have HS6 : Hid (FindSt w w6 X XB bx gw ag a len cap ng cw cg m L F F) := HS5.out.below hb6
  clear hb6 HS5
  go_wp2_with fail
  have k0 : Below w6.heap.size w6 w6.drew := (Below.refl _ w6).drew
  have HMK : Hid (∀ w', Below w6.heap.size w6 w' → (w'.cell? ⟨X, 0, none⟩ = some (.slice a len cap) ∧ w'.cell? ⟨X, 1, none⟩ = some (.int .i64 m) ∧ X < w'.heap.size ∧ w'.cell? ⟨XB, 0, none⟩ = some (.slice (some ⟨bx, 0, none⟩) len len) ∧ w'.cell? ⟨XB, 1, none⟩ = some (.int .i64 m) ∧ XB < w'.heap.size)) := fun w' kk => ⟨cell_later kk HS6.out.x0, cell_later kk HS6.out.x1, Nat.lt_of_lt_of_le HS6.out.ltX kk.size, cell_later kk HS6.out.y0, cell_later kk HS6.out.y1, Nat.lt_of_lt_of_le HS6.out.ltB kk.size⟩
  refine wp_region_held_drew (S := (fun w' => w'.cell? ⟨X, 0, none⟩ = some (.slice a len cap) ∧ w'.cell? ⟨X, 1, none⟩ = some (.int .i64 m) ∧ X < w'.heap.size ∧ w'.cell? ⟨XB, 0, none⟩ = some (.slice (some ⟨bx, 0, none⟩) len len) ∧ w'.cell? ⟨XB, 1, none⟩ = some (.int .i64 m) ∧ XB < w'.heap.size)) (by kernel_rfl) (HMK.out _ k0) (fun hHeld => ?_)
  refine wpAnyH_takeL (i := 0) (v := ?_) rfl (by kernel_rfl) (by kernel_rfl) (by kernel_rfl) (fun _ _ _ h => h) (Or.inl ⟨by rfl, ?_⟩) hHeld ?_
  rotate_left
  · (intro w hSw; (try dsimp only at hSw); go_simp; try with_reducible rfl)
  try go_frame
  refine wpAnyH_takeL (i := 1) (v := ?_) rfl (by kernel_rfl) (by kernel_rfl) (by kernel_rfl) (fun _ _ _ h => h) (Or.inl ⟨by rfl, ?_⟩) hHeld ?_
  rotate_left
  · (intro w hSw; (try dsimp only at hSw); go_simp; try with_reducible rfl)
  try go_frame
  refine wpAnyH_ready (rs := [2]) (by kernel_rfl) (by simp) ?_
  refine consL rfl (fun K hK => ?_) AllReadyH.nil
  go_simp
  refine (toRun_any m a len cap L _ (HL.out.keep (HS6.out.low.trans (k0.mono HS6.out.low.size))) hlen).mono ?_
  rintro e w7 ⟨b7, rfl, hg7, hlt7, hL7, b7'⟩
  have k1 : Below w6.heap.size w6 w7 := k0.trans (b7'.mono k0.size)
  go_wp2_with fail
  refine hK.out _ _ (HMK.out _ k1) (fun hHeld => ?_)
  clear hK K
  try go_frame
  refine wpAnyH_ready (rs := [3]) (by kernel_rfl) (by simp) ?_
  refine consL rfl (fun K hK => ?_) AllReadyH.nil
  go_simp
  refine (eqRun_same m _ _ _ _ _ _ _ L _ (HS6.out.ox.entsAt.keep k1) hL7).mono ?_
  rintro e w8 ⟨rfl, b8⟩
  have k2 : Below w6.heap.size w6 w8 := k1.trans (b8.mono k1.size)
  go_wp2_with fail
  refine hK.out _ _ (HMK.out _ k2) (fun hHeld => ?_)
  clear hK K
  try go_frame
  refine wpAnyH_takeL (i := 4) (v := ?_) rfl (by kernel_rfl) (by kernel_rfl) (by kernel_rfl) (fun _ _ _ h => h) (Or.inl ⟨by rfl, ?_⟩) hHeld ?_
  rotate_left
  · (intro w hSw; (try dsimp only at hSw); go_simp; try with_reducible rfl)
  try go_frame
  refine wpAnyH_done (by kernel_rfl) ?_ _
  have HS8 : Hid (FindSt w w8 X XB bx gw ag a len cap ng cw cg m L F F) := HS6.out.below k2
  clear k0 k1 k2 HMK HS6 hHeld b7' b8 hL7 hg7 hlt7
  have u8 := HS8.out.y0
  have v8 := HS8.out.y1
  have zB8 := HS8.out.ltB
  go_wp2_with fail
  refine (markRun_any w.heap.size bx len len m L _ HS8.out.ox (by omega)).mono ?_
  rintro e w9 ⟨rfl, hO9, hg9⟩
  have HS9 : Hid (FindSt w w9 X XB bx gw ag a len cap ng cw cg m (markL 1 len) F F) := HS8.out.markX hg9 hO9 HN1.out.1 HN1.out.2.1 HN1.out.2.2 (fun x e => (HN.out x e).2.2.2)
  clear HS8 hO9 hg9 u8 v8 zB8
  have hk9 : ¬ ((1 + 5 * len : Nat) : Int) < 0 := by omega
  obtain ⟨kv, hkv⟩ : ∃ kv : Int, kv = ((1 + 5 * len : Nat) : Int) := ⟨_, rfl⟩
  rw [← hkv] at hk9 ⊢
  clear hkv
  go_wp2_with fail
  refine (eqEntS_opt _ _ _ _ _ F _ HS9.out.og.entsAt HS9.out.ow.entsAt).mono ?_
  rintro e w10 ⟨rfl, hb10⟩
  have HS10 : Hid (FindSt w w10 X XB bx gw ag a len cap ng cw cg m (markL 1 len) F F) := HS9.out.below hb10
  clear hb10 HS9
  go_wp2_with fail
  refine (markO_any w.heap.size ag ng cg F _ HS10.out.og (by omega)).mono ?_
  rintro e w11 ⟨rfl, hO11, hg11⟩
  have HS11 : Hid (FindSt w w11 X XB bx gw ag a len cap ng cw cg m (markL 1 len) F (markL 1 ng)) := HS10.out.markG hg11 hO11 HN.out
  clear HS10 hO11 hg11
  obtain ⟨mv, hmv⟩ : ∃ mv : Int, mv = ((1 + 5 * ng : Nat) : Int) := ⟨_, rfl⟩
  have hm0 : ¬ mv < 0 := by omega
  have CH : Hid (∀ w', OwnO w' w.heap.size ag ng cg (markL 1 ng) → Calls Try.prog 30 #[.slice ag ng cg, .int .i64 1] w' fun e w'' => e = .returned (.int .i64 mv) ∧ Below w'.heap.size w' w'') := by rw [hmv]; exact fun w' h => heldO_any w.heap.size ag ng cg w' h (by omega)
  rw [← hmv]
  clear hmv
  go_wp2_with fail
  refine (CH.out _ HS11.out.og).mono ?_
  rintro e w12 ⟨rfl, hb12⟩
  have HS12 : Hid (FindSt w w12 X XB bx gw ag a len cap ng cw cg m (markL 1 len) F (markL 1 ng)) := HS11.out.below hb12
  clear HS11 hb12
  have x12 := HS12.out.x0
  have y12 := HS12.out.x1
  have zX12 := HS12.out.ltX
  go_wp2_with fail
  refine (toRun_any _ _ _ _ L _ (HL.out.keep HS12.out.low) hlen).mono ?_
  rintro e w13 ⟨b13, rfl, hg13, hlt13, hL13, hb13⟩
  have HS13 : Hid (FindSt w w13 X XB bx gw ag a len cap ng cw cg m (markL 1 len) F (markL 1 ng)) := HS12.out.below hb13
  have HL13 : Hid (EntsAt w13 (some ⟨b13, 0, none⟩) len len L) := hL13
  clear HS12 hb13 x12 y12 zX12 hL13 hg13 hlt13
  go_wp2_with fail
  refine (CI.out b13 _ HL13.out hlen).mono ?_
  rintro e w14 hfv
  obtain ⟨ah, nh, ch, rfl, hO14, hb14⟩ := foundV_own hfv
  have HS14 : Hid (FindSt w w14 X XB bx gw ag a len cap ng cw cg m (markL 1 len) F (markL 1 ng)) := HS13.out.below hb14
  obtain rfl : nh = ng := by have h1 := hO14.len; have h2 := HS14.out.ow.len; omega
  have HO14 : Hid (EntsAt w14 ah nh ch F) := hO14.entsAt
  clear HS13 hb14 hO14 hfv HL13
  go_wp2_with fail
  refine (eqEntS_opt _ _ _ _ _ F _ HO14.out HS14.out.ow.entsAt).mono ?_
  rintro e w15 ⟨rfl, hb15⟩
  have HS15 : Hid (FindSt w w15 X XB bx gw ag a len cap nh cw cg m (markL 1 len) F (markL 1 nh)) := HS14.out.below hb15
  clear HS14 hb15 HO14
  go_wp2_with fail
  refine (CH.out _ HS15.out.og).mono ?_
  rintro e w16 ⟨rfl, hb16⟩
  have HB16 : Hid (Below w.heap.size w w16) := (HS15.out.below hb16).low
  clear HS15 hb16
  go_wp2
  go_ret
  exact ⟨rfl, HB16.out⟩
end Go.Proofs.Ytdedonabfjmfpaa
