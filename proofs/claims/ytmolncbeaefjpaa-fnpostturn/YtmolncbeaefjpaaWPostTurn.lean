/-
  The walk of the law FnPostTurn: it answers true at all bytes.
-/
import Derived.Test.YtmolncbeaefjpaaBytes
import Derived.Test.YtmolncbeaefjpaaTurnAt
import Derived.Test.YtmolncbeaefjpaaToS
import Derived.Test.YtmolncbeaefjpaaToI
import Derived.Test.YtmolncbeaefjpaaSumI
import Derived.Test.YtmolncbeaefjpaaFairI
import Derived.Test.YtmolncbeaefjpaaPostOkS
import Derived.Deep.RegionWith
import Derived.Deep.RegionHeld3
import Derived.Deep.AppendLies
namespace Go.Proofs.Ytmolncbeaefjpaa
open Go.RowKit

set_option maxRecDepth 100000 in
set_option maxHeartbeats 4000000 in
theorem walkFnPostTurn (a : Option Addr) (len cap : Nat) (w : World) (h : BytesAt w a len cap) :
    Calls Try.prog 3 #[.slice a len cap] w fun e w' => e = .returned (.bool true) ∧ Below w.heap.size w w' := by
  have H : Hid (BytesAt w a len cap) := h
  have hm := Nat.le_trans h.1 h.2.1
  unfold maxLen at hm
  clear h
  obtain ⟨i0, hi, hz0, hz1, hz2⟩ := info_parts Try.infoLeg
  have HI : Hid (Try.prog.info? 31 = some i0 ∧ i0.zero = some (.agg #[.string ByteArray.empty, .int .i64 0, .int .i64 0]) ∧ i0.size = 3 ∧ i0.bytes = 32) := ⟨hi, hz0, hz1, hz2⟩
  clear hi hz0 hz1 hz2
  by_cases hb : 1048576 < len
  · go_enter Try.func3, Try.ntmps3
    go_wp2
    go_ret
    exact ⟨rfl, Below.refl _ _⟩
  go_enter Try.func3, Try.ntmps3
  go_wp2_with fail
  refine (drawTo_any _ _ _ _ H.out).mono ?_
  rintro e w1 ⟨id, b, n, c, L, acct, cur, rfl, hL1, _, hn, hs, _, hB1⟩
  have kP : Below w1.heap.size w1 (w1.alloc (.cells #[.int .i64 id, .slice (some ⟨b, 0, none⟩) n c] 25)) := (Below.refl _ _).alloc (Nat.le_refl _) _
  have hL2 := hL1.keep kP
  have hB2 := hB1.trans (kP.mono hB1.size)
  clear hL1 hB1 kP
  go_wp2_with fail
  obtain ⟨B, hB⟩ : ∃ B, B = w1.heap.size := ⟨_, rfl⟩
  have p0 : (w1.alloc (.cells #[.int .i64 id, .slice (some ⟨b, 0, none⟩) n c] 25)).cell? ⟨B, 0, none⟩ = some (.int .i64 id) := by rw [hB]; simp
  have p1 : (w1.alloc (.cells #[.int .i64 id, .slice (some ⟨b, 0, none⟩) n c] 25)).cell? ⟨B, 1, none⟩ = some (.slice (some ⟨b, 0, none⟩) n c) := by rw [hB]; simp
  obtain ⟨w2, hw2⟩ : ∃ w2, w2 = w1.alloc (.cells #[.int .i64 id, .slice (some ⟨b, 0, none⟩) n c] 25) := ⟨_, rfl⟩
  rw [← hw2] at hL2 hB2 p0 p1 ⊢
  simp only [← hB]
  clear hB hw2
  obtain ⟨N, hN⟩ : ∃ N, N = atY (yieldsOf id L cur) acct.data.toList := ⟨_, rfl⟩
  have HN : Hid (N = atY (yieldsOf id L cur) acct.data.toList) := hN
  refine (implTo _ _ _ _ _ _ L _ hL2 hs).mono ?_
  rw [← hN]
  clear hN
  rintro e w3 ⟨rfl, b3⟩
  have hL3 := hL2.keep b3
  have hB3 := hB2.trans (b3.mono hB2.size)
  have p30 := cell_later b3 p0
  have p31 := cell_later b3 p1
  clear b3 p0 p1 hL2 hB2
  go_wp2_with fail
  refine (specTo _ _ _ _ _ _ L _ hL3).mono ?_
  rw [← HN.out]
  rintro e w4 ⟨rfl, b4⟩
  have hL4 := hL3.keep b4
  have hB4 := hB3.trans (b4.mono hB3.size)
  have p40 := cell_later b4 p30
  have p41 := cell_later b4 p31
  clear b4 p30 p31 hL3 hB3
  go_wp2_with fail
  refine (specPostOk _ _ _ _ L _ hL4).mono ?_
  rintro e w5 ⟨rfl, b5⟩
  have hL5 := hL4.keep b5
  have hB5 := hB4.trans (b5.mono hB4.size)
  have p50 := cell_later b5 p40
  have p51 := cell_later b5 p41
  clear b5 p40 p41 hL4 hB4
  cases hok : postB id L with
  | false =>
    go_wp2_with fail
    refine (specTo _ _ _ _ _ _ L _ hL5).mono ?_
    rw [← HN.out]
    rintro e w6 ⟨rfl, b6⟩
    go_wp2
    go_ret
    exact ⟨rfl, hB5.trans (b6.mono hB5.size)⟩
  | true =>
    have hn4 : n ≤ 4 := by have := postB_len hok; have := hL5.length; omega
    have hn1 : 1 ≤ n := by
      have h1 : 1 ≤ L.length := by simp [postB] at hok; exact hok.2.2.1
      have := hL5.length
      omega
    have HALL : Hid (∀ l ∈ L, legB l = true) := postB_legs hok
    have HLEN : Hid (L.length = n) := hL5.length
    have hBlt : B < w5.heap.size := World.block_lt_of_cell? _ _ p50
    have hblt : b < w5.heap.size := (hL5.lies _ rfl (by omega)).1
    go_upto_region 9 with fail
    obtain ⟨Q, hQ⟩ : ∃ Q, Q = w5.heap.size := ⟨_, rfl⟩
    obtain ⟨W, hW⟩ : ∃ W, W = (w5.alloc (.cells #[.int .i64 id, .slice none 0 0] 25)).alloc (.cells #[.int .i64 id, .slice none 0 0] 25) := ⟨_, rfl⟩
    have kW : Below w5.heap.size w5 W := by rw [hW]; exact ((Below.refl _ _).alloc (Nat.le_refl _) _).alloc (by simp) _
    have T0 : TurnAt W B Q b n c id L (.slice none 0 0) (.slice none 0 0) [] [] := by
      refine ⟨cell_later kW p50, cell_later kW p51, by rw [hW, hQ]; simp, by rw [hW, hQ]; simp, by rw [hW, hQ]; simp, by rw [hW, hQ]; simp, by rw [hW, hQ]; simp, by rw [hW, hQ]; simp, hL5.keep kW, ?_, ?_, ?_, by rw [hW, hQ]; simp, by rw [hQ]; exact hBlt, by rw [hQ]; exact hblt⟩
      · exact World.ownsRow_nil _ _ _ _
      · exact World.ownsRow_nil _ _ _ _
      · intro g h; cases h
    have hB7 := hB5.trans (kW.mono hB5.size)
    have hwQ : w.heap.size ≤ Q := by rw [hQ]; exact hB5.size
    rw [← hQ] at hBlt hblt
    rw [← hW]
    simp only [← hQ]
    clear hW hQ kW hL5 hB5 p50 p51
    have c1 := T0.p1
    go_wp2
    go_loopw [9] (fun i wr => ∃ (k : Nat) (vq vb : Value), k ≤ n ∧ i = .int .i64 ((n : Int) - 1 - k) ∧ TurnAt wr B Q b n c id L vq vb (L.reverse.take k) ((L.reverse.take k).map negL) ∧ Below w.heap.size w wr) (fun i _ => (intOf i + 1).toNat)
    case atStart => exact ⟨0, _, _, Nat.zero_le _, by simp, T0, hB7⟩
    case round =>
      clear T0 hB7 c1
      obtain ⟨k, vq, vb, hk, rfl, T, hb⟩ := hrel
      have hlk : (L.reverse.take k).length = k := by simp [HLEN.out]; omega
      obtain ⟨Lq, hLq⟩ : ∃ Lq, Lq = L.reverse.take k := ⟨_, rfl⟩
      rw [← hLq] at T hlk
      have HLQ : Hid (Lq = L.reverse.take k) := hLq
      have HLK : Hid (Lq.length = k) := hlk
      clear hLq hlk
      by_cases hlt : k < n
      · obtain ⟨j, hj⟩ : ∃ j, j + k + 1 = n := ⟨n - 1 - k, by omega⟩
        have ej : (n : Int) - 1 - (k : Int) = (j : Int) := by omega
        rw [ej]
        clear ej
        have hjn : (j : Int) < (n : Int) := by omega
        obtain ⟨s, cu, nn, hg, hlw, g0, g1, g2⟩ := T.legs.leg (Below.refl _ wr) (T.legs.lies _ rfl (by omega)).1 j (by omega)
        have hlb : legB (s, cu, nn) = true := HALL.out _ (List.mem_of_getElem? hg)
        have hnb := legB_num hlb
        simp only at hnb
        obtain ⟨hnb1, hnb2⟩ := hnb
        have HTK : Hid (L.reverse.take (k + 1) = Lq ++ [(s, cu, nn)]) := by rw [HLQ.out]; exact rev_take_snoc (by rw [HLEN.out]; exact hlt) (by rw [HLEN.out, show n - 1 - k = j by omega]; exact hg)
        simp only [Nat.zero_add] at g0 g1 g2
        have hbw : b < wr.heap.size := by have := T.size; have := T.hb; omega
        have p1 := T.p1
        clear hg hlw hlb
        have HT : Hid (TurnAt wr B Q b n c id L vq vb Lq (Lq.map negL)) := T
        clear T
        go_upto_region 13 with fail
        obtain ⟨Y, hY⟩ : ∃ Y, Y = wr.heap.size := ⟨_, rfl⟩
        obtain ⟨W1, hW1⟩ : ∃ W1, W1 = wr.alloc (.cells #[.string s, .int .i64 cu, .int .i64 nn] 31) := ⟨_, rfl⟩
        have y0 : W1.cell? ⟨Y, 0, none⟩ = some (.string s) := by rw [hW1, hY]; simp
        have y1 : W1.cell? ⟨Y, 1, none⟩ = some (.int .i64 cu) := by rw [hW1, hY]; simp
        have y2 : W1.cell? ⟨Y, 2, none⟩ = some (.int .i64 nn) := by rw [hW1, hY]; simp
        have fy : W1.frozen? ⟨Y, 2, none⟩ = false := by rw [hW1, hY]; simp
        have gr1 : wr.grownBy W1 none := by rw [hW1]; exact World.grownBy_alloc _ _ _
        have hYW : Y < W1.heap.size := World.block_lt_of_cell? _ _ y0
        have T1 : TurnAt W1 B Q b n c id L vq vb Lq (Lq.map negL) := HT.out.grown gr1 (fun x e => by cases e) (own_ne HT.out.oq (fun x e => by cases e)) (own_ne HT.out.ob (fun x e => by cases e))
        have hYQ : Q + 2 ≤ Y := by rw [hY]; exact HT.out.size
        have hqY : ∀ x, vq.ownBlock = some x → x < Y := fun x e => by rw [hY]; exact (HT.out.oq.lt x e).2
        have hbY : ∀ x, vb.ownBlock = some x → x < Y := fun x e => by rw [hY]; exact (HT.out.ob.lt x e).2
        have hB1 : Below w.heap.size w W1 := hb.grown gr1 hb.size (fun x e => by cases e)
        rw [← hW1]
        simp only [← hY]
        clear hW1 hY gr1 g0 g1 g2 hbw p1 hb HT
        have HQY : Hid (∀ x, vq.ownBlock = some x → x < Y) := hqY
        have HBY : Hid (∀ x, vb.ownBlock = some x → x < Y) := hbY
        have q1 := T1.q1
        have HT1 : Hid (TurnAt W1 B Q b n c id L vq vb Lq (Lq.map negL)) := T1
        have hQ1 : Q < W1.heap.size := by omega
        clear T1 hqY hbY
        have gr2 : W1.grownBy (W1.alloc (.cells #[.string s, .int .i64 cu, .int .i64 nn] 31)) none := World.grownBy_alloc _ _ _
        have HT2 : Hid (TurnAt (W1.alloc (.cells #[.string s, .int .i64 cu, .int .i64 nn] 31)) B Q b n c id L vq vb Lq (Lq.map negL)) := HT1.out.grown gr2 (fun x e => by cases e) (own_ne HT1.out.oq (fun x e => by cases e)) (own_ne HT1.out.ob (fun x e => by cases e))
        have HG2 : Hid (W1.grownBy (W1.alloc (.cells #[.string s, .int .i64 cu, .int .i64 nn] 31)) none) := gr2
        clear gr2
        go_upto_region 14 with (at_builtin; refine wpList_append_lies _ rfl (.tmp 61) (.tmp 63) 23 rfl (Q + 2) 31 i0 _ 3 32 Try.underlying23 HI.out.1 HI.out.2.1 HI.out.2.2.1 HI.out.2.2.2 rfl (by omega) vq Lq.length _ rfl HT2.out.oq ⟨W1.heap.size, 0, none⟩ 1 1 (flat [(s, cu, nn)]) rfl rfl (flat_new W1 _ [(s, cu, nn)]) (flat_one _) (by omega) (by have := HLK.out; unfold maxLen; omega) (by have := HLK.out; omega) HT2.out.size (W1.heap.size + 1) (by simp) ?_; intro g cap' w3 hown hgrow hat hltg; have q13 : w3.cell? ⟨Q, 1, none⟩ = some vq := cell_far HT2.out.q1 hgrow (row_ne (x := Q) HT2.out.oq (by omega)); have fq3 : w3.frozen? ⟨Q, 1, none⟩ = false := (grown_frozen (x := ⟨Q, 1, none⟩) hgrow (by simp; omega) (row_ne (x := Q) HT2.out.oq (by omega))).trans HT2.out.fq)
        have hlq1 : Lq.length + 1 ≤ 4 := by have := HLK.out; omega
        obtain ⟨W4, hW4⟩ : ∃ W4, W4 = w3.setCell ⟨Q, 1, none⟩ (.slice (some ⟨g, 0, none⟩) (Lq.length + 1) cap') := ⟨_, rfl⟩
        have T4 : TurnAt W4 B Q b n c id L (.slice (some ⟨g, 0, none⟩) (Lq.length + 1) cap') vb (Lq ++ [(s, cu, nn)]) (Lq.map negL) := by rw [hW4]; exact HT2.out.pushq hown hgrow (by simpa using hat)
        have far4 : ∀ (o : Nat) (u : Value), W1.cell? ⟨Y, o, none⟩ = some u → W4.cell? ⟨Y, o, none⟩ = some u := fun o u hu => by
          rw [hW4]
          refine cell_far (cell_far (cell_far hu HG2.out (by simp)) hgrow ?_) (grown_set _ _ _) ?_
          · intro e
            have := HQY.out Y e.symm
            omega
          · intro e
            simp at e
            omega
        have y04 := far4 0 _ y0
        have y14 := far4 1 _ y1
        have y24 := far4 2 _ y2
        have fy4 : W4.frozen? ⟨Y, 2, none⟩ = false := by
          rw [hW4, World.frozen?_setCell]
          refine (grown_frozen (x := ⟨Y, 2, none⟩) hgrow (by show Y < _; simp; omega) ?_).trans ((grown_frozen (x := ⟨Y, 2, none⟩) HG2.out hYW (by simp)).trans fy)
          intro e
          have := HQY.out Y e.symm
          omega
        have hB4 : Below w.heap.size w W4 := by
          rw [hW4]
          refine ((hB1.grown HG2.out hB1.size (fun x e => by cases e)).grown hgrow (by have := hB1.size; simp; omega) (fun x e => ?_)).setCell (p := ⟨Q, 1, none⟩) (by show w.heap.size ≤ Q; omega) _
          have := (HT2.out.oq.lt x e).1
          omega
        have hgY : g ≠ Y := by
          rcases hat with h1 | h1
          · have := HQY.out g h1
            omega
          · omega
        rw [← hW4]
        clear hW4 hown hgrow hat hltg q13 fq3 far4 HT1 HT2 HG2 HQY y0 y1 y2 fy hYW hQ1 hB1 q1
        go_upto_region 15 with fail
        obtain ⟨W5, hW5⟩ : ∃ W5, W5 = W4.setCell ⟨Y, 2, none⟩ (.int .i64 (-nn)) := ⟨_, rfl⟩
        have T5 : TurnAt W5 B Q b n c id L (.slice (some ⟨g, 0, none⟩) (Lq.length + 1) cap') vb (Lq ++ [(s, cu, nn)]) (Lq.map negL) := by
          rw [hW5]
          refine T4.grown (grown_set _ _ _) (fun x e => by cases e; exact hYQ) (.inr (by simp [Value.ownBlock]; exact hgY)) ?_
          cases hv : vb.ownBlock with
          | none => exact Or.inl rfl
          | some x => exact Or.inr (fun e => by have h1 := HBY.out x hv; simp at e; omega)
        have y05 : W5.cell? ⟨Y, 0, none⟩ = some (.string s) := by rw [hW5]; exact (World.cell?_setCell_other _ _ _ _ (by simp)).trans y04
        have y15 : W5.cell? ⟨Y, 1, none⟩ = some (.int .i64 cu) := by rw [hW5]; exact (World.cell?_setCell_other _ _ _ _ (by simp)).trans y14
        have y25 : W5.cell? ⟨Y, 2, none⟩ = some (.int .i64 (-nn)) := by rw [hW5]; exact World.cell?_setCell_same _ _ _ y24
        have hB5 : Below w.heap.size w W5 := by rw [hW5]; exact hB4.setCell (p := ⟨Y, 2, none⟩) (by show w.heap.size ≤ Y; omega) _
        have hYW5 : Y < W5.heap.size := World.block_lt_of_cell? _ _ y05
        rw [← hW5]
        clear hW5 T4 hB4 y04 y14 y24 fy4
        have r1 := T5.r1
        have HT5 : Hid (TurnAt W5 B Q b n c id L (.slice (some ⟨g, 0, none⟩) (Lq.length + 1) cap') vb (Lq ++ [(s, cu, nn)]) (Lq.map negL)) := T5
        have gr6 : W5.grownBy (W5.alloc (.cells #[.string s, .int .i64 cu, .int .i64 (-nn)] 31)) none := World.grownBy_alloc _ _ _
        have HT6 : Hid (TurnAt (W5.alloc (.cells #[.string s, .int .i64 cu, .int .i64 (-nn)] 31)) B Q b n c id L (.slice (some ⟨g, 0, none⟩) (Lq.length + 1) cap') vb (Lq ++ [(s, cu, nn)]) (Lq.map negL)) := T5.grown gr6 (fun x e => by cases e) (own_ne T5.oq (fun x e => by cases e)) (own_ne T5.ob (fun x e => by cases e))
        have HG6 : Hid (W5.grownBy (W5.alloc (.cells #[.string s, .int .i64 cu, .int .i64 (-nn)] 31)) none) := gr6
        clear gr6 T5 HT5
        have HML : Hid ((Lq.map negL).length = k) := by show (Lq.map negL).length = k; rw [List.length_map]; exact HLK.out
        go_wp2_with (at_builtin; refine wpList_append_lies _ rfl (.tmp 71) (.tmp 73) 23 rfl (Q + 2) 31 i0 _ 3 32 Try.underlying23 HI.out.1 HI.out.2.1 HI.out.2.2.1 HI.out.2.2.2 rfl (by omega) vb (Lq.map negL).length _ rfl HT6.out.ob ⟨W5.heap.size, 0, none⟩ 1 1 (flat [(s, cu, -nn)]) rfl rfl (flat_new W5 _ [(s, cu, -nn)]) (flat_one _) (by omega) (by have := HML.out; unfold maxLen; omega) (by have := HML.out; omega) HT6.out.size (W5.heap.size + 1) (by simp) ?_; intro g6 cap6 w6 hown hgrow hat hltg; have r16 : w6.cell? ⟨Q + 1, 1, none⟩ = some vb := cell_far HT6.out.r1 hgrow (row_ne (x := Q + 1) HT6.out.ob (by omega)); have fr6 : w6.frozen? ⟨Q + 1, 1, none⟩ = false := (grown_frozen (x := ⟨Q + 1, 1, none⟩) hgrow (by simp; omega) (row_ne (x := Q + 1) HT6.out.ob (by omega))).trans HT6.out.fr)
        have T7 := HT6.out.pushb (l := (s, cu, -nn)) hown hgrow (by simpa using hat)
        simp only [List.length_map] at T7
        go_roundw
        case rel =>
          refine ⟨k + 1, .slice (some ⟨g, 0, none⟩) (Lq.length + 1) cap', .slice (some ⟨g6, 0, none⟩) (Lq.length + 1) cap6, by omega, ?_, ?_, ?_⟩
          · go_num
          · rw [HTK.out, List.map_append]
            exact T7
          · refine ((hB5.grown HG6.out hB5.size (fun x e => by cases e)).grown hgrow (by have := hB5.size; simp; omega) (fun x e => ?_)).setCell (p := ⟨Q + 1, 1, none⟩) (by show w.heap.size ≤ Q + 1; omega) _
            have := (HT6.out.ob.lt x e).1
            omega
        case measure => simp [intOf]
      · have hkn : k = n := by omega
        have hqL : Lq = L.reverse := by rw [HLQ.out]; exact List.take_of_length_le (by simp [HLEN.out]; omega)
        subst hqL
        have hlr : L.reverse.length = n := by simp [HLEN.out]
        obtain ⟨gq, cq, hvq, _⟩ := T.oq.form (by rw [hlr]; omega)
        obtain ⟨gb, cb, hvb, _⟩ := T.ob.form (by simp; rw [HLEN.out]; omega)
        rw [hlr] at hvq
        rw [List.length_map, hlr] at hvb
        subst hvq hvb
        have lp := T.legs
        have lq : LegsAt wr (some ⟨gq, 0, none⟩) n cq L.reverse := legsAt_of_row (by have := T.oq; rw [hlr] at this; exact this) hlr (fun l hl => T.legs.legs l (by simpa using hl)) (fun j l hl => flat_has _ j l hl)
        have lb : LegsAt wr (some ⟨gb, 0, none⟩) n cb (L.reverse.map negL) := legsAt_of_row (by have := T.ob; rw [List.length_map, hlr] at this; exact this) (by simp [HLEN.out]) (fun l hl => by
          obtain ⟨l', hl', rfl⟩ := List.mem_map.1 hl
          have hm' : l' ∈ L := by simpa using hl'
          exact legW_neg (T.legs.legs l' hm') (HALL.out l' hm')) (fun j l hl => flat_has _ j l hl)
        have HMK : Hid (∀ w', Below wr.heap.size wr w' → (w'.cell? ⟨B, 0, none⟩ = some (.int .i64 id) ∧ w'.cell? ⟨B, 1, none⟩ = some (.slice (some ⟨b, 0, none⟩) n c) ∧ w'.cell? ⟨Q, 0, none⟩ = some (.int .i64 id) ∧ w'.cell? ⟨Q, 1, none⟩ = some (.slice (some ⟨gq, 0, none⟩) n cq) ∧ w'.cell? ⟨Q + 1, 0, none⟩ = some (.int .i64 id) ∧ w'.cell? ⟨Q + 1, 1, none⟩ = some (.slice (some ⟨gb, 0, none⟩) n cb) ∧ Below wr.heap.size wr w')) :=
          fun w' k' => ⟨cell_later k' T.p0, cell_later k' T.p1, cell_later k' T.q0, cell_later k' T.q1, cell_later k' T.r0, cell_later k' T.r1, k'⟩
        have k7 : Below wr.heap.size wr wr.drew := (Below.refl _ wr).drew
        have HNR : Hid (atY (yieldsOf id L.reverse cur) acct.data.toList = N) := (yAt_rev id cur L acct.data.toList).trans HN.out.symm
        have HNB : Hid (atY (yieldsOf id (L.reverse.map negL) cur) acct.data.toList = -N) := by
          show atY (yieldsOf id (L.reverse.map negL) cur) acct.data.toList = -N
          rw [yAt_neg, yAt_rev, ← HN.out]
        have HFR : Hid (fairB id L.reverse = fairB id L) := fairB_rev id L
        have HFB : Hid (fairB id (L.reverse.map negL) = fairB id L) := (fairB_neg id L.reverse).trans (fairB_rev id L)
        obtain ⟨q, hq⟩ : ∃ q, q = fairB id L := ⟨_, rfl⟩
        have HQ : Hid (q = fairB id L) := hq
        have hNb := atY_bd (yieldsOf id L cur) acct.data.toList
        have hN4 := yieldsOf_len id L cur
        rw [← HN.out] at hNb
        obtain ⟨hNb1, hNb2⟩ := hNb
        have hNc1 : -4000 ≤ N := by omega
        have hNc2 : N ≤ 4000 := by omega
        have eN : IntKind.i64.wrap (-N) = -N := by rw [IntKind.wrap_i64]; omega
        clear T hNb1 hNb2 hN4 hq
        go_upto_region 16 with fail
        go_region_held3 (fun w' => w'.cell? ⟨B, 0, none⟩ = some (.int .i64 id) ∧ w'.cell? ⟨B, 1, none⟩ = some (.slice (some ⟨b, 0, none⟩) n c) ∧ w'.cell? ⟨Q, 0, none⟩ = some (.int .i64 id) ∧ w'.cell? ⟨Q, 1, none⟩ = some (.slice (some ⟨gq, 0, none⟩) n cq) ∧ w'.cell? ⟨Q + 1, 0, none⟩ = some (.int .i64 id) ∧ w'.cell? ⟨Q + 1, 1, none⟩ = some (.slice (some ⟨gb, 0, none⟩) n cb) ∧ Below wr.heap.size wr w') (first | exact HMK.out _ k13 | exact HMK.out _ k12 | exact HMK.out _ k11 | exact HMK.out _ k10 | exact HMK.out _ k9 | exact HMK.out _ k8 | exact HMK.out _ k7) (first
          | (go_at_call 15; refine (implFair id (some ⟨b, 0, none⟩) n c L _ (lp.keep k12)).mono ?_; rw [← HQ.out]; rintro e w13 ⟨rfl, b13⟩; have k13 : Below wr.heap.size wr w13 := k12.trans (b13.mono k12.size))
          | (go_at_call 15; refine (implFair id (some ⟨gb, 0, none⟩) n cb (L.reverse.map negL) _ (lb.keep k11)).mono ?_; rw [HFB.out, ← HQ.out]; rintro e w12 ⟨rfl, b12⟩; have k12 : Below wr.heap.size wr w12 := k11.trans (b12.mono k11.size))
          | (go_at_call 15; refine (implFair id (some ⟨b, 0, none⟩) n c L _ (lp.keep k10)).mono ?_; rw [← HQ.out]; rintro e w11 ⟨rfl, b11⟩; have k11 : Below wr.heap.size wr w11 := k10.trans (b11.mono k10.size))
          | (go_at_call 15; refine (implFair id (some ⟨gq, 0, none⟩) n cq L.reverse _ (lq.keep k9)).mono ?_; rw [HFR.out, ← HQ.out]; rintro e w10 ⟨rfl, b10⟩; have k10 : Below wr.heap.size wr w10 := k9.trans (b10.mono k9.size))
          | (go_at_call 12; refine (implTo id cur acct (some ⟨gb, 0, none⟩) n cb (L.reverse.map negL) _ (lb.keep k8) hs).mono ?_; rw [HNB.out]; rintro e w9 ⟨rfl, b9⟩; have k9 : Below wr.heap.size wr w9 := k8.trans (b9.mono k8.size))
          | (go_at_call 12; refine (implTo id cur acct (some ⟨gq, 0, none⟩) n cq L.reverse _ (lq.keep k7) hs).mono ?_; rw [HNR.out]; rintro e w8 ⟨rfl, b8⟩; have k8 : Below wr.heap.size wr w8 := k7.trans (b8.mono k7.size)))
        all_goals
          go_wp2
          go_ret
          exact ⟨rfl, hb.trans (k13.mono hb.size)⟩
end Go.Proofs.Ytmolncbeaefjpaa
