/-
  The walk of the law FnPostFair: it answers true at all bytes.
-/
import Derived.Test.YtdedonabfjmfpaaDrawFair
import Derived.Test.YtdedonabfjmfpaaFairI
import Derived.Test.YtdedonabfjmfpaaFairS
import Derived.Test.YtdedonabfjmfpaaSumI
import Derived.Test.YtdedonabfjmfpaaPostOkI
import Derived.Test.YtdedonabfjmfpaaPostOkS
import Derived.Test.YtdedonabfjmfpaaHeld
import Derived.Deep.LoopGhost
namespace Go.Proofs.Ytdedonabfjmfpaa
open Go.RowKit

/-- The currencies below k are nothing together. -/
def fairTo (L : List LegD) : Nat → Bool
  | 0 => true
  | k + 1 => fairTo L k && (decide (k = 0) || decide (totY (selY (k : Int) L) = 0))
theorem fairTo_one (L : List LegD) : fairTo L 1 = true := by simp [fairTo]
theorem fairTo_next {L : List LegD} {k : Nat} (h : 1 ≤ k) : fairTo L (k + 1) = (fairTo L k && decide (totY (selY (k : Int) L) = 0)) := by
  have : decide (k = 0) = false := decide_eq_false (by omega)
  simp [fairTo, this]
theorem fair_four {id : Int} {L : List LegD} (h : postB id L = true) : fairB id L = fairTo L 4 := by
  have hy : ∀ c, yieldsOf id L c = selY c L := fun c => by simp [yieldsOf, h]
  rw [fairTo_next (by omega), fairTo_next (by omega), fairTo_next (by omega), fairTo_one]
  simp only [fairB, h, hy]
  simp [Bool.and_assoc]
theorem fair_more {id : Int} {L : List LegD} (hf : fairB id L = true) : fairB id (L ++ [(⟨#[97]⟩, 1, 5)]) = false := by
  have hp : postB id L = true := by cases h : postB id L with
    | true => rfl
    | false => rw [fairB_bad h] at hf; cases hf
  cases hq : postB id (L ++ [(⟨#[97]⟩, 1, 5)]) with
  | false => exact fairB_bad hq
  | true =>
    refine fairB_no (k := 1) (by omega) (by omega) ?_
    have h0 : totY (yieldsOf id L 1) = 0 := by
      simp [fairB, hp] at hf
      exact hf.1
    have e1 : yieldsOf id (L ++ [(⟨#[97]⟩, 1, 5)]) 1 = yieldsOf id L 1 ++ [⟨(⟨#[97]⟩, 1, 5), by decide⟩] := by
      simp only [yieldsOf, hp, hq, if_true]
      rw [selY_append]
      congr 1
    show ¬ totY (yieldsOf id (L ++ [(⟨#[97]⟩, 1, 5)]) ((1 : Nat) : Int)) = 0
    have e2 : ((1 : Nat) : Int) = 1 := rfl
    rw [e2, e1, totY_snoc, h0]
    decide

set_option maxRecDepth 100000 in
set_option maxHeartbeats 4000000 in
theorem walkFnPostFair (a : Option Addr) (len cap : Nat) (w : World) (h : BytesAt w a len cap) :
    Calls Try.prog 12 #[.slice a len cap] w fun e w' => e = .returned (.bool true) ∧ Below w.heap.size w w' := by
  have H : Hid (BytesAt w a len cap) := h
  have hm := Nat.le_trans h.1 h.2.1
  unfold maxLen at hm
  clear h
  by_cases hbig : 1048576 < len
  · go_enter Try.func12, Try.ntmps12
    go_wp2
    go_ret
    exact ⟨rfl, Below.refl _ _⟩
  go_enter Try.func12, Try.ntmps12
  go_wp2_with fail
  refine (drawFair_any a len cap w H.out).mono ?_
  rintro e w1 ⟨id, b, n, c, L, rfl, hL1, hn, hb1⟩
  obtain ⟨X, hX⟩ : ∃ X, X = w1.heap.size := ⟨_, rfl⟩
  obtain ⟨W, hW⟩ : ∃ W, W = w1.alloc (.cells #[.int .i64 id, .slice (some ⟨b, 0, none⟩) n c] 66) := ⟨_, rfl⟩
  have kW : Below w1.heap.size w1 W := by rw [hW]; exact (Below.refl _ _).alloc (Nat.le_refl _) _
  have x0 : W.cell? ⟨X, 0, none⟩ = some (.int .i64 id) := by rw [hW, hX]; simp
  have x1 : W.cell? ⟨X, 1, none⟩ = some (.slice (some ⟨b, 0, none⟩) n c) := by rw [hW, hX]; simp
  have hLW := hL1.keep kW
  have hBW := hb1.trans (kW.mono hb1.size)
  have HLW : Hid (LegsAt W (some ⟨b, 0, none⟩) n c L) := hLW
  have HLEN : Hid (L.length = n) := hLW.length
  have zX := World.block_lt_of_cell? _ _ x0
  simp only at zX
  obtain ⟨F, hF⟩ : ∃ F, F = fairB id L := ⟨_, rfl⟩
  obtain ⟨P, hP⟩ : ∃ P, P = postB id L := ⟨_, rfl⟩
  have HF : Hid (F = fairB id L) := hF
  have HP : Hid (P = postB id L) := hP
  have hr := hLW.room
  have hbg := hLW.big
  unfold maxLen at hbg
  go_wp2_with fail
  rw [← hW, ← hX]
  clear hW hX kW hL1 hb1 hLW
  refine (implFair id _ _ _ L _ HLW.out).mono ?_
  rintro e w3 ⟨rfl, b3⟩
  rw [← hF]
  have y0 := cell_later b3 x0
  have y1 := cell_later b3 x1
  have HL3 : Hid (LegsAt w3 (some ⟨b, 0, none⟩) n c L) := HLW.out.keep b3
  have hB3 := hBW.trans (b3.mono hBW.size)
  clear x0 x1 HLW hBW b3 zX
  have CF : Hid (∀ w', Below w3.heap.size w3 w' → Calls Try.prog 46 #[.agg #[.int .i64 id, .slice (some ⟨b, 0, none⟩) n c]] w' fun e w'' => e = .returned (.bool F) ∧ Below w'.heap.size w' w'') := by rw [hF]; exact fun w' kk => specFair id _ _ _ L w' (HL3.out.keep kk)
  have CO : Hid (∀ w', Below w3.heap.size w3 w' → Calls Try.prog 47 #[.agg #[.int .i64 id, .slice (some ⟨b, 0, none⟩) n c]] w' fun e w'' => e = .returned (.bool P) ∧ Below w'.heap.size w' w'') := by rw [hP]; exact fun w' kk => implPostOk id _ _ _ L w' (HL3.out.keep kk)
  have CP : Hid (∀ w', Below w3.heap.size w3 w' → Calls Try.prog 48 #[.agg #[.int .i64 id, .slice (some ⟨b, 0, none⟩) n c]] w' fun e w'' => e = .returned (.bool P) ∧ Below w'.heap.size w' w'') := by rw [hP]; exact fun w' kk => specPostOk id _ _ _ L w' (HL3.out.keep kk)
  have CSM : Hid (∀ (cur : Int) (w' : World), Below w3.heap.size w3 w' → Calls Try.prog 49 #[.agg #[.int .i64 id, .slice (some ⟨b, 0, none⟩) n c], .int .i64 cur] w' fun e w'' => e = .returned (.int .i64 (totY (yieldsOf id L cur))) ∧ Below w'.heap.size w' w'') := fun cur w' kk => implSum id cur _ _ _ L w' (HL3.out.keep kk)
  clear hF hP
  have k0 : Below w3.heap.size w3 w3.drew := (Below.refl _ w3).drew
  have HMK : Hid (∀ w', Below w3.heap.size w3 w' → (w'.cell? ⟨X, 0, none⟩ = some (.int .i64 id) ∧ w'.cell? ⟨X, 1, none⟩ = some (.slice (some ⟨b, 0, none⟩) n c) ∧ X < w'.heap.size)) := fun w' kk => ⟨cell_later kk y0, cell_later kk y1, World.block_lt_of_cell? _ _ (cell_later kk y0)⟩
  go_wp2_with fail
  refine wp_region_held_drew (S := (fun w' => w'.cell? ⟨X, 0, none⟩ = some (.int .i64 id) ∧ w'.cell? ⟨X, 1, none⟩ = some (.slice (some ⟨b, 0, none⟩) n c) ∧ X < w'.heap.size)) (by kernel_rfl) (HMK.out _ k0) (fun hHeld => ?_)
  refine wpAnyH_takeL (i := 0) (v := ?_) rfl (by kernel_rfl) (by kernel_rfl) (by kernel_rfl) (fun _ _ _ h => h) (Or.inl ⟨by rfl, ?_⟩) hHeld ?_
  rotate_left
  · (intro w hSw; (try dsimp only at hSw); go_simp; try with_reducible rfl)
  try go_frame
  refine wpAnyH_takeL (i := 1) (v := ?_) rfl (by kernel_rfl) (by kernel_rfl) (by kernel_rfl) (fun _ _ _ h => h) (Or.inl ⟨by rfl, ?_⟩) hHeld ?_
  rotate_left
  · (intro w hSw; (try dsimp only at hSw); go_simp; try with_reducible rfl)
  try go_frame
  refine wpAnyH_ready (rs := [2]) (by kernel_rfl) (by simp) ?_
  refine consL rfl (fun K hK => ?_) AllReadyH.nil
  go_simp
  refine (CF.out _ k0).mono ?_
  rintro e w4 ⟨rfl, b4⟩
  have k4 : Below w3.heap.size w3 w4 := k0.trans (b4.mono k0.size)
  go_wp2_with fail
  refine hK.out _ _ (HMK.out _ k4) (fun hHeld => ?_)
  clear hK K
  try go_frame
  refine wpAnyH_takeL (i := 3) (v := ?_) rfl (by kernel_rfl) (by kernel_rfl) (by kernel_rfl) (fun _ _ _ h => h) (Or.inl ⟨by rfl, ?_⟩) hHeld ?_
  rotate_left
  · (intro w hSw; (try dsimp only at hSw); go_simp; try with_reducible rfl)
  try go_frame
  refine wpAnyH_takeL (i := 4) (v := ?_) rfl (by kernel_rfl) (by kernel_rfl) (by kernel_rfl) (fun _ _ _ h => h) (Or.inl ⟨by rfl, ?_⟩) hHeld ?_
  rotate_left
  · (intro w hSw; (try dsimp only at hSw); go_simp; try with_reducible rfl)
  try go_frame
  refine wpAnyH_takeL (i := 5) (v := ?_) rfl (by kernel_rfl) (by kernel_rfl) (by kernel_rfl) (fun _ _ _ h => h) (Or.inl ⟨by rfl, ?_⟩) hHeld ?_
  rotate_left
  · (intro w hSw; (try dsimp only at hSw); go_simp; try with_reducible rfl)
  try go_frame
  refine wpAnyH_takeL (i := 7) (v := ?_) rfl (by kernel_rfl) (by kernel_rfl) (by kernel_rfl) (fun _ _ _ h => h) (Or.inl ⟨by rfl, ?_⟩) hHeld ?_
  rotate_left
  · (intro w hSw; (try dsimp only at hSw); go_simp; try with_reducible rfl)
  try go_frame
  refine wpAnyH_ready (rs := [6]) (by kernel_rfl) (by simp) ?_
  refine consL rfl (fun K hK => ?_) AllReadyH.nil
  go_simp
  refine (CO.out _ k4).mono ?_
  rintro e w5 ⟨rfl, b5⟩
  have k5 : Below w3.heap.size w3 w5 := k4.trans (b5.mono k4.size)
  go_wp2_with fail
  refine hK.out _ _ (HMK.out _ k5) (fun hHeld => ?_)
  clear hK K
  try go_frame
  refine wpAnyH_ready (rs := [8]) (by kernel_rfl) (by simp) ?_
  refine consL rfl (fun K hK => ?_) AllReadyH.nil
  go_simp
  refine (CP.out _ k5).mono ?_
  rintro e w6 ⟨rfl, b6⟩
  have k6 : Below w3.heap.size w3 w6 := k5.trans (b6.mono k5.size)
  go_wp2_with fail
  refine hK.out _ _ (HMK.out _ k6) (fun hHeld => ?_)
  clear hK K
  try go_frame
  refine wpAnyH_takeL (i := 9) (v := ?_) rfl (by kernel_rfl) (by kernel_rfl) (by kernel_rfl) (fun _ _ _ h => h) (Or.inl ⟨by rfl, ?_⟩) hHeld ?_
  rotate_left
  · (intro w hSw; (try dsimp only at hSw); go_simp; try with_reducible rfl)
  try go_frame
  refine wpAnyH_takeL (i := 10) (v := ?_) rfl (by kernel_rfl) (by kernel_rfl) (by kernel_rfl) (fun _ _ _ h => h) (Or.inl ⟨by rfl, ?_⟩) hHeld ?_
  rotate_left
  · (intro w hSw; (try dsimp only at hSw); go_simp; try with_reducible rfl)
  try go_frame
  refine wpAnyH_done (by kernel_rfl) ?_ _
  have z0 := cell_later k6 y0
  have z1 := cell_later k6 y1
  have zz := World.block_lt_of_cell? _ _ z0
  simp only at zz
  have k6' : Below w3.heap.size w3 w6 := k6
  clear k0 k4 k5 k6 b4 b5 b6 hHeld
  go_wp2_with fail
  refine (CP.out _ k6').mono ?_
  rintro e w7 ⟨rfl, b7⟩
  have k7 : Below w3.heap.size w3 w7 := k6'.trans (b7.mono k6'.size)
  clear z0 z1 zz k6' b7
  cases hPv : P with
  | false =>
    have hFf : F = false := by rw [HF.out]; exact fairB_bad (by rw [← HP.out]; exact hPv)
    subst hFf
    go_wp2
    go_ret
    exact ⟨rfl, hB3.trans (k7.mono hB3.size)⟩
  | true =>
    have HPT : Hid (postB id L = true) := by rw [← HP.out]; exact hPv
    have HALL : Hid (∀ l ∈ L, legB l = true) := postB_legs HPT.out
    have H4 : Hid (L.length ≤ 4) := postB_len HPT.out
    have HY : Hid (∀ c, yieldsOf id L c = selY c L) := fun c => by simp [yieldsOf, HPT.out]
    subst hPv
    go_wp2
    go_loopw [5, 6] (fun fv cv wr => ∃ k : Nat, 1 ≤ k ∧ k ≤ 4 ∧ cv = .int .i64 k ∧ fv = .bool (fairTo L k) ∧ Below w3.heap.size w3 wr) (fun _ cv _ => 4 - (intOf cv).toNat)
    case atStart => exact ⟨1, by omega, by omega, rfl, by rw [fairTo_one], k7⟩
    case round =>
      obtain ⟨k, hk1, hk4, rfl, rfl, hb⟩ := hrel
      have q0 := cell_later hb y0
      have q1 := cell_later hb y1
      have zq := World.block_lt_of_cell? _ _ q0
      simp only at zq
      obtain ⟨G, hG⟩ : ∃ G, G = fairTo L k := ⟨_, rfl⟩
      have HGK : Hid (G = fairTo L k) := hG
      rw [← hG]
      clear hG
      by_cases hk3 : k < 4
      · have hk3' : (k : Int) ≤ 3 := by omega
        go_wp2
        go_loop [7, 8] (fun m i => ∃ j : Nat, j ≤ n ∧ i = .int .i64 j ∧ m = .int .i64 (totY (selY (k : Int) (L.take j)))) (fun _ i => n - (intOf i).toNat)
        case atStart => exact ⟨0, Nat.zero_le _, rfl, rfl⟩
        case round =>
          obtain ⟨j, hj, rfl, rfl⟩ := hrel
          have hab := totY_bd (selY (k : Int) (L.take j))
          have hl4 := selY_len4 (k : Int) H4.out j
          obtain ⟨A0, hA0⟩ : ∃ A0, A0 = totY (selY (k : Int) (L.take j)) := ⟨_, rfl⟩
          rw [← hA0] at hab ⊢
          have HA0 : Hid (A0 = totY (selY (k : Int) (L.take j))) := hA0
          clear hA0
          obtain ⟨hab1, hab2⟩ := hab
          have hb1 : -4000 ≤ A0 := by omega
          have hb2 : A0 ≤ 4000 := by omega
          clear hab1 hab2 hl4
          by_cases hlt : j < n
          · obtain ⟨s, cu, nn, hg, hlw, g0, g1, g2⟩ := (HL3.out).leg hb (HL3.out.lies _ rfl (by omega)).1 j hlt
            have hlb : legB (s, cu, nn) = true := HALL.out _ (List.mem_of_getElem? hg)
            have hnb := numY_bd ⟨(s, cu, nn), hlb⟩
            simp only [numY] at hnb
            obtain ⟨hn1, hn2⟩ := hnb
            have HG : Hid (L[j]? = some (s, cu, nn)) := hg
            have HLB : Hid (legB (s, cu, nn) = true) := hlb
            clear hg hlw hlb
            simp only [Nat.zero_add] at g0 g1 g2
            by_cases hc : cu = (k : Int)
            · subst hc
              go_wp2
              go_round
              case rel => exact ⟨j + 1, by omega, by go_num, by rw [selY_take_yes HG.out HLB.out rfl, totY_snoc, ← HA0.out]; rfl⟩
              case measure => simp [intOf]; omega
            · have hce : (cu == (k : Int)) = false := by simpa using hc
              have HC : Hid (¬ cu = (k : Int)) := hc
              clear hc
              go_wp2
              go_round
              case rel => exact ⟨j + 1, by omega, by go_num, by rw [selY_take_no HG.out HC.out, ← HA0.out]⟩
              case measure => simp [intOf]; omega
          · have HAA : Hid (A0 = totY (selY (k : Int) L)) := by show A0 = _; rw [HA0.out, List.take_of_length_le (by rw [HLEN.out]; omega)]
            have CS1 : Hid (Calls Try.prog 49 #[.agg #[.int .i64 id, .slice (some ⟨b, 0, none⟩) n c], .int .i64 (k : Int)] wr fun e w'' => e = .returned (.int .i64 A0) ∧ Below wr.heap.size wr w'') := by
              have := CSM.out (k : Int) wr hb
              rw [HY.out, ← HAA.out] at this
              exact this
            have HNX : Hid (fairTo L (k + 1) = (G && decide (A0 = 0))) := by show fairTo L (k + 1) = _; rw [fairTo_next hk1, ← HGK.out, ← HAA.out]
            clear HA0
            cases G with
            | true =>
              go_wp2_with (go_at_call 49; refine CS1.out.mono ?_; rintro e w9 ⟨rfl, b9⟩)
              go_roundw
              case rel => exact ⟨k + 1, by omega, by omega, by go_num, by rw [HNX.out]; congr 1, hb.trans (b9.mono hb.size)⟩
              case measure => simp [intOf]; omega
            | false =>
              go_wp2_with (go_at_call 49; refine CS1.out.mono ?_; rintro e w9 ⟨rfl, b9⟩)
              go_roundw
              case rel => exact ⟨k + 1, by omega, by omega, by go_num, by rw [HNX.out]; rfl, hb.trans (b9.mono hb.size)⟩
              case measure => simp [intOf]; omega
      · have hk : k = 4 := by omega
        subst hk
        have HFG : Hid (F = G) := by show F = G; rw [HF.out, fair_four HPT.out, HGK.out]
        obtain rfl : F = G := HFG.out
        obtain ⟨i0, hi, hz0, hz1, hz2⟩ := info_parts Try.infoLeg
        have HL9 : Hid (LegsAt wr (some ⟨b, 0, none⟩) n c L) := HL3.out.keep hb
        have hbw := (hb.size)
        obtain ⟨W2, hW2⟩ : ∃ W2, W2 = (wr.alloc (.cells #[.int .i64 id, .slice (some ⟨b, 0, none⟩) n c] 66)).alloc (.cells #[] 70) := ⟨_, rfl⟩
        have kq : Below wr.heap.size wr W2 := by rw [hW2]; exact ((Below.refl _ _).alloc (Nat.le_refl _) _).alloc (by simp) _
        have HL2 : Hid (LegsAt W2 (some ⟨b, 0, none⟩) n c L) := HL9.out.keep kq
        have row0 : W2.ownsRow (wr.heap.size + 1) 70 3 (.slice (some ⟨wr.heap.size + 1, 0, none⟩) 0 0) 0 [] := by
          rw [hW2]
          have := World.ownsRow_lit (base := wr.heap.size + 1) (e := 70) (size := 3) (wr.alloc (.cells #[.int .i64 id, .slice (some ⟨b, 0, none⟩) n c] 66)) #[] 0 (by simp) (by simp) (by simp)
          simpa using this
        have hW2s : W2.heap.size = wr.heap.size + 1 + 1 := by rw [hW2]; simp
        have q2a : W2.cell? ⟨wr.heap.size, 0, none⟩ = some (.int .i64 id) := by rw [hW2]; simp
        have q2b : W2.cell? ⟨wr.heap.size, 1, none⟩ = some (.slice (some ⟨b, 0, none⟩) n c) := by rw [hW2]; simp
        have f2 : ∀ o, W2.frozen? ⟨wr.heap.size, o, none⟩ = false := fun o => by rw [hW2]; simp [go_sem]
        have HROW0 : Hid (W2.ownsRow (wr.heap.size + 1) 70 3 (.slice (some ⟨wr.heap.size + 1, 0, none⟩) 0 0) 0 []) := row0
        have HW2 : Hid (W2 = (wr.alloc (.cells #[.int .i64 id, .slice (some ⟨b, 0, none⟩) n c] 66)).alloc (.cells #[] 70)) := hW2
        have HW2S : Hid (W2.heap.size = wr.heap.size + 1 + 1) := hW2s
        clear row0 hW2 hW2s
        go_wp2_with (at_builtin; rw [← HW2.out]; refine wpList_append_own _ rfl _ _ 64 rfl (wr.heap.size + 1) 70 i0 _ 3 32 Try.underlying64 hi hz0 hz1 hz2 rfl (by decide) _ _ _ rfl HROW0.out ⟨b, 0, none⟩ n c (flat L) rfl ?c0 ?c1 ?c2 ?c3 ?c4 ?c5 ?_)
        case c0 => rw [flat_len, HLEN.out]
        case c1 => intro j u hj; have := legs_news HL2.out j u hj; rw [Go.WideShapes.add_plain, Nat.zero_add] at this; exact this
        case c2 => exact flat_one L
        case c3 => unfold maxLen; omega
        case c4 => omega
        all_goals try (have := HW2S.out; omega)
        intro v4 w4' hown4 hgrow4 hnil4
        obtain ⟨g4, c4, rfl⟩ := row_form hown4 hnil4
        have hne0 : some wr.heap.size ≠ (Value.slice (some ⟨wr.heap.size + 1, 0, none⟩) 0 0).ownBlock := by simp [Value.ownBlock]
        have p4a := hgrow4.cell q2a hne0
        have p4b := hgrow4.cell q2b hne0
        have hz9 : wr.heap.size < W2.heap.size := by have := HW2S.out; omega
        have p4f : ∀ o, w4'.frozen? ⟨wr.heap.size, o, none⟩ = false := fun o => (grown_frozen hgrow4 (x := ⟨wr.heap.size, o, none⟩) hz9 hne0).trans (f2 o)
        have hb4 : Below wr.heap.size wr w4' := kq.grown hgrow4 kq.size (fun k e => by simp [Value.ownBlock] at e; omega)
        have hg4 := hown4.lt g4 rfl
        have HOWN4 : Hid (w4'.ownsRow (wr.heap.size + 1) 70 3 (.slice (some ⟨g4, 0, none⟩) n c4) n (flat L)) := by simpa [Hid] using hown4
        have hz4 : wr.heap.size < w4'.heap.size := World.block_lt_of_cell? _ _ p4a
        clear hown4 hgrow4 hnil4 q2a q2b f2 HROW0 HL2 HW2 kq HW2S hz9
        go_wp2_with (at_builtin; refine wpList_append_own _ rfl _ _ 64 rfl (wr.heap.size + 1) 70 i0 _ 3 32 Try.underlying64 hi hz0 hz1 hz2 rfl (by decide) _ _ _ rfl (HOWN4.out.alloc _) ⟨w4'.heap.size, 0, none⟩ 1 1 (legCells (⟨#[97]⟩, 1, 5)) rfl rfl ?d1 ?d2 ?d3 ?d4 ?d5 ?_)
        case d1 =>
          intro j u hj
          match j, hj with
          | 0, hj => simp [legCells] at hj; subst hj; simp [Addr.add]
          | 1, hj => simp [legCells] at hj; subst hj; simp [Addr.add]
          | 2, hj => simp [legCells] at hj; subst hj; simp [Addr.add]
          | j + 3, hj => simp [legCells] at hj
        case d2 => intro u hu; simp [legCells] at hu; rcases hu with rfl | rfl | rfl <;> rfl
        case d3 => unfold maxLen; omega
        case d4 => omega
        all_goals try (have := hb4.size; simp; omega)
        intro v5 w5' hown5 hgrow5 hnil5
        obtain ⟨g5, c5, rfl⟩ : ∃ g cap, v5 = .slice (some ⟨g, 0, none⟩) (n + 1) cap := by
          rcases hown5.2 with ⟨hv, h0⟩ | ⟨g, cap, cur, hv, _⟩
          · omega
          · exact ⟨g, cap, hv⟩
        have hne1 : some wr.heap.size ≠ (Value.slice (some ⟨g4, 0, none⟩) n c4).ownBlock := by simp [Value.ownBlock]; omega
        have ka4 : Below w4'.heap.size w4' (w4'.alloc (.cells #[.string ⟨#[97]⟩, .int .i64 1, .int .i64 5] 70)) := (Below.refl _ _).alloc (Nat.le_refl _) _
        have p5a := hgrow5.cell (cell_later ka4 p4a) hne1
        have p5b := hgrow5.cell (cell_later ka4 p4b) hne1
        have p5f : w5'.frozen? ⟨wr.heap.size, 1, none⟩ = false := (grown_frozen hgrow5 (x := ⟨wr.heap.size, 1, none⟩) (Nat.lt_of_lt_of_le hz4 ka4.size) hne1).trans ((ka4.frozen (p := ⟨wr.heap.size, 1, none⟩) hz4).trans (p4f 1))
        have hb5 : Below wr.heap.size wr w5' := (hb4.trans (ka4.mono hb4.size)).grown hgrow5 (Nat.le_trans hb4.size ka4.size) (fun k e => by simp [Value.ownBlock] at e; omega)
        have hg5 := hown5.lt g5 rfl
        have hw5 : ∀ l ∈ L ++ [(⟨#[97]⟩, 1, 5)], LegW l := by
          intro l hl
          rcases List.mem_append.1 hl with h1 | h1
          · exact HL9.out.legs l h1
          · simp only [List.mem_singleton] at h1
            subst h1
            exact ⟨by unfold maxLen; decide, by decide, by decide⟩
        have hL5 : LegsAt w5' (some ⟨g5, 0, none⟩) (n + 1) c5 (L ++ [(⟨#[97]⟩, 1, 5)]) := by
          refine legsAt_of_row (base := wr.heap.size + 1) (xs := flat (L ++ [(⟨#[97]⟩, 1, 5)])) ?_ (by simp [HLEN.out]) hw5 (fun j l hl => flat_has _ j l hl)
          rw [flat_append]
          exact hown5
        have HL5 : Hid (LegsAt w5' (some ⟨g5, 0, none⟩) (n + 1) c5 (L ++ [(⟨#[97]⟩, 1, 5)])) := hL5
        have hz5 : wr.heap.size < w5'.heap.size := World.block_lt_of_cell? _ _ p5a
        clear hown5 hgrow5 hnil5 hL5 hw5 HOWN4 p4a p4b p4f ka4 hb4
        cases F with
        | false =>
          go_wp2
          go_ret
          exact ⟨rfl, hB3.trans (((hb.trans (hb5.mono hb.size)).setCell (p := ⟨wr.heap.size, 1, none⟩) (by have := hb.size; simp; omega) _).mono hB3.size)⟩
        | true =>
          have HFM : Hid (fairB id (L ++ [(⟨#[97]⟩, 1, 5)]) = false) := fair_more HF.out.symm
          go_wp2_with fail
          refine (implFair id _ _ _ (L ++ [(⟨#[97]⟩, 1, 5)]) _ (HL5.out.setCell _ _ (fun x e _ => by cases e; simp; omega))).mono ?_
          rintro e w6' ⟨rfl, hb6⟩
          rw [HFM.out]
          have hbf : Below w.heap.size w (w5'.setCell ⟨wr.heap.size, 1, none⟩ (.slice (some ⟨g5, 0, none⟩) (n + 1) c5)) := hB3.trans (((hb.trans (hb5.mono hb.size)).setCell (p := ⟨wr.heap.size, 1, none⟩) (by have := hb.size; simp; omega) _).mono hB3.size)
          have HB6 : Hid (Below w.heap.size w w6') := hbf.trans (hb6.mono hbf.size)
          clear hbf hb6 HL5
          go_wp2
          go_ret
          exact ⟨rfl, HB6.out⟩
end Go.Proofs.Ytdedonabfjmfpaa
