/-
  The walk of the law FnPostJoin: it answers true at all bytes.
-/
import Derived.Test.YtmolncbeaefjpaaBytes
import Derived.Test.YtmolncbeaefjpaaJoinP
import Derived.Test.YtmolncbeaefjpaaToS
import Derived.Test.YtmolncbeaefjpaaToI
import Derived.Test.YtmolncbeaefjpaaSumI
import Derived.Test.YtmolncbeaefjpaaFairI
import Derived.Test.YtmolncbeaefjpaaPostOkS
import Derived.Deep.RegionWith
import Derived.Deep.RegionHeld3
namespace Go.Proofs.Ytmolncbeaefjpaa
open Go.RowKit

theorem LegsAt.take {w : World} {b n c k : Nat} {L : List LegD} (h : LegsAt w (some ⟨b, 0, none⟩) n c L) (hk : k ≤ n) : LegsAt w (some ⟨b, 0, none⟩) k c (L.take k) where
  length := by have := h.length; simp; omega
  room := by have := h.room; omega
  big := h.big
  legs := fun l hl => h.legs l (List.mem_of_mem_take hl)
  nil := fun e => by cases e
  lies := fun x e hp => h.lies x e (by omega)
  cells := fun x e i hi => by
    have hi' : i < L.length := by simp at hi; omega
    have := h.cells x e i hi'
    simpa using this
theorem LegsAt.drop {w : World} {b n c k : Nat} {L : List LegD} (h : LegsAt w (some ⟨b, 0, none⟩) n c L) (hk : k ≤ n) : LegsAt w (some ⟨b, k * 3, none⟩) (n - k) (c - k) (L.drop k) where
  length := by have := h.length; simp; omega
  room := by have := h.room; omega
  big := by have := h.big; omega
  legs := fun l hl => h.legs l (List.mem_of_mem_drop hl)
  nil := fun e => by cases e
  lies := fun x e hp => by cases e; exact h.lies ⟨b, 0, none⟩ rfl (by omega)
  cells := fun x e i hi => by
    cases e
    have hi' : k + i < L.length := by simp at hi; omega
    have h1 := h.cells ⟨b, 0, none⟩ rfl (k + i) hi'
    have e1 : 0 + (k + i) * 3 = k * 3 + i * 3 := by omega
    simp only [e1] at h1
    simpa using h1

theorem wpAnyH_takeL {P : Program} {l : List Oper} {Q : Exit → Act → World → Prop} {md : Region.Mode} {S : World → Prop} {i : Nat} {oi : Oper} {v : Value} {fuel : Nat} {listed : Array Bool} {a : Act} {w : World} (hi : l[i]? = some oi)
    (hs : Region.noSelect l.toArray = true) (hf : Region.free md l.toArray listed i = true) (hr : (Region.ready md l.toArray listed).contains i = true)
    (hQ : ∀ c a w, Q (.panic c) (a.put oi.dst v) w → Q (.panic c) a w) (hy : YieldsIf P l.toArray S oi v a) (hS : S w)
    (h : wpAnyH P md l.toArray Q S fuel (listed.setIfInBounds i true) (a.put oi.dst v) w) : wpAnyH P md l.toArray Q S (fuel + 1) listed a w :=
  wpAnyH_take (by simpa using hi) hs hf hr hQ hy hS h
theorem consL {P : Program} {l : List Oper} {Q : Exit → Act → World → Prop} {md : Region.Mode} {S : World → Prop} {fuel : Nat} {listed : Array Bool} {a : Act} {w : World} {i : Nat} {o : Oper} {rs : List Nat} (ho : l[i]? = some o)
    (h : ∀ K' : Act → World → Prop, Shut (∀ a w, S w → (S w → wpAnyH P md l.toArray Q S fuel (listed.setIfInBounds i true) a w) → K' a w) → if Region.wanted o (yielded l.toArray a.tmps) = true then Oper.wp P o a w K' Q else K' (a.put o.dst undef) w)
    (hs : AllReadyH P md l.toArray Q S fuel listed a w rs) : AllReadyH P md l.toArray Q S fuel listed a w (i :: rs) :=
  AllReadyH.cons (by simpa using ho) h hs

set_option maxRecDepth 100000 in
set_option maxHeartbeats 4000000 in
theorem walkFnPostJoin (a : Option Addr) (len cap : Nat) (a' : Option Addr) (len' cap' : Nat) (w : World) (h : BytesAt w a len cap) (h' : BytesAt w a' len' cap') :
    Calls Try.prog 4 #[.slice a len cap, .slice a' len' cap'] w fun e w' => e = .returned (.bool true) ∧ Below w.heap.size w w' := by
  have H : Hid (BytesAt w a len cap) := h
  have hm' := Nat.le_trans h'.1 h'.2.1
  have hm := Nat.le_trans h.1 h.2.1
  unfold maxLen at hm hm'
  clear h h'
  by_cases hb : 1048576 < len
  · go_enter Try.func4, Try.ntmps4
    go_wp2
    go_ret
    exact ⟨rfl, Below.refl _ _⟩
  by_cases hb2 : 1048576 < len'
  · go_enter Try.func4, Try.ntmps4
    go_wp2
    go_ret
    exact ⟨rfl, Below.refl _ _⟩
  go_enter Try.func4, Try.ntmps4
  go_wp2_with fail
  refine (drawTo_any _ _ _ _ H.out).mono ?_
  rintro e w1 ⟨id, b, n, c, L, acct, cur, rfl, hL1, _, hn, hs, _, hB1⟩
  have kP : Below w1.heap.size w1 (w1.alloc (.cells #[.int .i64 id, .slice (some ⟨b, 0, none⟩) n c] 25)) := (Below.refl _ _).alloc (Nat.le_refl _) _
  have hL2 := hL1.keep kP
  have hB2 := hB1.trans (kP.mono hB1.size)
  clear hL1 hB1 kP
  go_wp2_with fail
  obtain ⟨B, hB⟩ : ∃ B, B = w1.heap.size := ⟨_, rfl⟩
  have p0 : (w1.alloc (.cells #[.int .i64 id, .slice (some ⟨b, 0, none⟩) n c] 25)).cell? ⟨B, 0, none⟩ = some (.int .i64 id) := by rw [hB]; simp
  have p1 : (w1.alloc (.cells #[.int .i64 id, .slice (some ⟨b, 0, none⟩) n c] 25)).cell? ⟨B, 1, none⟩ = some (.slice (some ⟨b, 0, none⟩) n c) := by rw [hB]; simp
  obtain ⟨w2, hw2⟩ : ∃ w2, w2 = w1.alloc (.cells #[.int .i64 id, .slice (some ⟨b, 0, none⟩) n c] 25) := ⟨_, rfl⟩
  rw [← hw2] at hL2 hB2 p0 p1 ⊢
  simp only [← hB]
  clear hB hw2
  obtain ⟨N, hN⟩ : ∃ N, N = atY (yieldsOf id L cur) acct.data.toList := ⟨_, rfl⟩
  have HN : Hid (N = atY (yieldsOf id L cur) acct.data.toList) := hN
  refine (implTo _ _ _ _ _ _ L _ hL2 hs).mono ?_
  rw [← hN]
  clear hN
  rintro e w3 ⟨rfl, b3⟩
  have hL3 := hL2.keep b3
  have hB3 := hB2.trans (b3.mono hB2.size)
  have p30 := cell_later b3 p0
  have p31 := cell_later b3 p1
  clear b3 p0 p1 hL2 hB2
  go_wp2_with fail
  refine (specTo _ _ _ _ _ _ L _ hL3).mono ?_
  rw [← HN.out]
  rintro e w4 ⟨rfl, b4⟩
  have hL4 := hL3.keep b4
  have hB4 := hB3.trans (b4.mono hB3.size)
  have p40 := cell_later b4 p30
  have p41 := cell_later b4 p31
  clear b4 p30 p31 hL3 hB3
  go_wp2_with fail
  refine (specPostOk _ _ _ _ L _ hL4).mono ?_
  rintro e w5 ⟨rfl, b5⟩
  have hL5 := hL4.keep b5
  have hB5 := hB4.trans (b5.mono hB4.size)
  have p50 := cell_later b5 p40
  have p51 := cell_later b5 p41
  clear b5 p40 p41 hL4 hB4
  cases hok : postB id L with
  | false =>
    go_wp2_with fail
    refine (specTo _ _ _ _ _ _ L _ hL5).mono ?_
    rw [← HN.out]
    rintro e w6 ⟨rfl, b6⟩
    go_wp2
    go_ret
    exact ⟨rfl, hB5.trans (b6.mono hB5.size)⟩
  | true =>
    by_cases hn2 : n < 2
    · have hn2I : (n : Int) < 2 := by omega
      go_wp2_with fail
      refine (specTo _ _ _ _ _ _ L _ hL5).mono ?_
      rw [← HN.out]
      rintro e w6 ⟨rfl, b6⟩
      go_wp2
      go_ret
      exact ⟨rfl, hB5.trans (b6.mono hB5.size)⟩
    have hn2I : ¬ (n : Int) < 2 := by omega
    have hn1 : ¬ ((n : Int) - 1 = 0) := by omega
    obtain ⟨k, hk⟩ : ∃ k, k = 1 + len' % (n - 1) := ⟨_, rfl⟩
    have hmod : len' % (n - 1) < n - 1 := Nat.mod_lt _ (by omega)
    have hk1 : 1 ≤ k := by omega
    have hkn : k < n := by omega
    have hkI : wrap64 (1 + (len' : Int) % ((n : Int) - 1)) = (k : Int) := by
      have e1 : (len' : Int) % ((n : Int) - 1) = ((len' % (n - 1) : Nat) : Int) := by
        rw [Int.natCast_emod, Int.natCast_sub (by omega)]; rfl
      rw [e1]
      unfold wrap64
      omega
    have hkc : k ≤ c := by have := hL5.room; omega
    clear hk hmod
    go_upto_region 8 with fail
    rw [hkI]
    clear hkI
    have hBlt : B < w5.heap.size := World.block_lt_of_cell? _ _ p50
    have hBne : B ≠ w5.heap.size := by omega
    go_upto_region 10 with fail
    have hck : ¬ c = k := by have := hL5.room; omega
    rw [if_neg hck]
    obtain ⟨X, hX⟩ : ∃ X, X = w5.heap.size := ⟨_, rfl⟩
    obtain ⟨W, hW⟩ : ∃ W, W = (w5.alloc (.cells #[.int .i64 1, .slice (some ⟨b, 0, none⟩) k c] 25)).alloc (.cells #[.int .i64 2, .slice (some ⟨b, k * 3, none⟩) (n - k) (c - k)] 25) := ⟨_, rfl⟩
    have kW : Below w5.heap.size w5 W := by rw [hW]; exact ((Below.refl _ _).alloc (Nat.le_refl _) _).alloc (by simp) _
    have x70 : W.cell? ⟨X, 0, none⟩ = some (.int .i64 1) := by rw [hW, hX]; simp
    have x71 : W.cell? ⟨X, 1, none⟩ = some (.slice (some ⟨b, 0, none⟩) k c) := by rw [hW, hX]; simp
    have y70 : W.cell? ⟨X + 1, 0, none⟩ = some (.int .i64 2) := by rw [hW, hX]; simp
    have y71 : W.cell? ⟨X + 1, 1, none⟩ = some (.slice (some ⟨b, k * 3, none⟩) (n - k) (c - k)) := by rw [hW, hX]; simp
    have q70 := cell_later kW p50
    have q71 := cell_later kW p51
    have lp := hL5.keep kW
    have lx := lp.take (k := k) (by omega)
    have ly := lp.drop (k := k) (by omega)
    have hB7 := hB5.trans (kW.mono hB5.size)
    rw [← hW, ← hX]
    have hlen := hL5.length
    clear hW hX kW hL5 hB5 p50 p51 hBlt hBne
    have HMK : Hid (∀ w', Below W.heap.size W w' → (w'.cell? ⟨X, 0, none⟩ = some (.int .i64 1) ∧ w'.cell? ⟨X, 1, none⟩ = some (.slice (some ⟨b, 0, none⟩) k c) ∧ w'.cell? ⟨X + 1, 0, none⟩ = some (.int .i64 2) ∧ w'.cell? ⟨X + 1, 1, none⟩ = some (.slice (some ⟨b, k * 3, none⟩) (n - k) (c - k)) ∧ w'.cell? ⟨B, 0, none⟩ = some (.int .i64 id) ∧ w'.cell? ⟨B, 1, none⟩ = some (.slice (some ⟨b, 0, none⟩) n c) ∧ Below W.heap.size W w')) :=
      fun w' k' => ⟨cell_later k' x70, cell_later k' x71, cell_later k' y70, cell_later k' y71, cell_later k' q70, cell_later k' q71, k'⟩
    have k7 : Below W.heap.size W W.drew := (Below.refl _ W).drew
    clear x70 x71 y70 y71 q70 q71
    obtain ⟨N1, hN1⟩ : ∃ N1, N1 = atY (yieldsOf 1 (L.take k) cur) acct.data.toList := ⟨_, rfl⟩
    obtain ⟨N2, hN2⟩ : ∃ N2, N2 = atY (yieldsOf 2 (L.drop k) cur) acct.data.toList := ⟨_, rfl⟩
    obtain ⟨T1, hT1⟩ : ∃ T1, T1 = totY (yieldsOf 1 (L.take k) cur) := ⟨_, rfl⟩
    obtain ⟨T2, hT2⟩ : ∃ T2, T2 = totY (yieldsOf 2 (L.drop k) cur) := ⟨_, rfl⟩
    obtain ⟨T, hT⟩ : ∃ T, T = totY (yieldsOf id L cur) := ⟨_, rfl⟩
    have hNN : N = N1 + N2 := by rw [HN.out, hN1, hN2, yields_cut hok hk1 (by omega), atY_append]
    have hTT : T = T1 + T2 := by rw [hT, hT1, hT2, yields_cut hok hk1 (by omega), totY_append]
    have bN1 : -4000 ≤ N1 ∧ N1 ≤ 4000 := by have := atY_bd (yieldsOf 1 (L.take k) cur) acct.data.toList; have := yieldsOf_len 1 (L.take k) cur; omega
    have bN2 : -4000 ≤ N2 ∧ N2 ≤ 4000 := by have := atY_bd (yieldsOf 2 (L.drop k) cur) acct.data.toList; have := yieldsOf_len 2 (L.drop k) cur; omega
    have bT1 : -4000 ≤ T1 ∧ T1 ≤ 4000 := by have := totY_bd (yieldsOf 1 (L.take k) cur); have := yieldsOf_len 1 (L.take k) cur; omega
    have bT2 : -4000 ≤ T2 ∧ T2 ≤ 4000 := by have := totY_bd (yieldsOf 2 (L.drop k) cur); have := yieldsOf_len 2 (L.drop k) cur; omega
    have HN1 : Hid (N1 = atY (yieldsOf 1 (L.take k) cur) acct.data.toList) := hN1
    have HN2 : Hid (N2 = atY (yieldsOf 2 (L.drop k) cur) acct.data.toList) := hN2
    have HT1 : Hid (T1 = totY (yieldsOf 1 (L.take k) cur)) := hT1
    have HT2 : Hid (T2 = totY (yieldsOf 2 (L.drop k) cur)) := hT2
    have HT : Hid (T = totY (yieldsOf id L cur)) := hT
    clear hN1 hN2 hT1 hT2 hT
    subst hNN hTT
    obtain ⟨bN1a, bN1b⟩ := bN1
    obtain ⟨bN2a, bN2b⟩ := bN2
    obtain ⟨bT1a, bT1b⟩ := bT1
    obtain ⟨bT2a, bT2b⟩ := bT2
    have eN : IntKind.i64.wrap (N1 + N2) = N1 + N2 := by rw [IntKind.wrap_i64]; omega
    have eT : IntKind.i64.wrap (T1 + T2) = T1 + T2 := by rw [IntKind.wrap_i64]; omega
    cases hF : fairB id L with
    | false =>
      refine wp_region_held_drew (S := (fun w' => w'.cell? ⟨X, 0, none⟩ = some (.int .i64 1) ∧ w'.cell? ⟨X, 1, none⟩ = some (.slice (some ⟨b, 0, none⟩) k c) ∧ w'.cell? ⟨X + 1, 0, none⟩ = some (.int .i64 2) ∧ w'.cell? ⟨X + 1, 1, none⟩ = some (.slice (some ⟨b, k * 3, none⟩) (n - k) (c - k)) ∧ w'.cell? ⟨B, 0, none⟩ = some (.int .i64 id) ∧ w'.cell? ⟨B, 1, none⟩ = some (.slice (some ⟨b, 0, none⟩) n c) ∧ Below W.heap.size W w')) (by kernel_rfl) (HMK.out _ k7) (fun hHeld => ?_)
      refine wpAnyH_takeL (i := 0) (v := ?_) rfl (by kernel_rfl) (by kernel_rfl) (by kernel_rfl) (fun _ _ _ h => h) (Or.inl ⟨by rfl, ?_⟩) hHeld ?_
      rotate_left
      · (intro w hSw; (try dsimp only at hSw); go_simp; try with_reducible rfl)
      try go_frame
      refine wpAnyH_takeL (i := 1) (v := ?_) rfl (by kernel_rfl) (by kernel_rfl) (by kernel_rfl) (fun _ _ _ h => h) (Or.inl ⟨by rfl, ?_⟩) hHeld ?_
      rotate_left
      · (intro w hSw; (try dsimp only at hSw); go_simp; try with_reducible rfl)
      try go_frame
      refine wpAnyH_takeL (i := 2) (v := ?_) rfl (by kernel_rfl) (by kernel_rfl) (by kernel_rfl) (fun _ _ _ h => h) (Or.inl ⟨by rfl, ?_⟩) hHeld ?_
      rotate_left
      · (intro w hSw; (try dsimp only at hSw); go_simp; try with_reducible rfl)
      try go_frame
      refine wpAnyH_takeL (i := 4) (v := ?_) rfl (by kernel_rfl) (by kernel_rfl) (by kernel_rfl) (fun _ _ _ h => h) (Or.inl ⟨by rfl, ?_⟩) hHeld ?_
      rotate_left
      · (intro w hSw; (try dsimp only at hSw); go_simp; try with_reducible rfl)
      try go_frame
      refine wpAnyH_takeL (i := 5) (v := ?_) rfl (by kernel_rfl) (by kernel_rfl) (by kernel_rfl) (fun _ _ _ h => h) (Or.inl ⟨by rfl, ?_⟩) hHeld ?_
      rotate_left
      · (intro w hSw; (try dsimp only at hSw); go_simp; try with_reducible rfl)
      try go_frame
      refine wpAnyH_takeL (i := 6) (v := ?_) rfl (by kernel_rfl) (by kernel_rfl) (by kernel_rfl) (fun _ _ _ h => h) (Or.inl ⟨by rfl, ?_⟩) hHeld ?_
      rotate_left
      · (intro w hSw; (try dsimp only at hSw); go_simp; try with_reducible rfl)
      try go_frame
      refine wpAnyH_takeL (i := 9) (v := ?_) rfl (by kernel_rfl) (by kernel_rfl) (by kernel_rfl) (fun _ _ _ h => h) (Or.inl ⟨by rfl, ?_⟩) hHeld ?_
      rotate_left
      · (intro w hSw; (try dsimp only at hSw); go_simp; try with_reducible rfl)
      try go_frame
      refine wpAnyH_ready (rs := [3]) (by kernel_rfl) (by simp) ?_
      refine consL rfl (fun K hK => ?_) AllReadyH.nil
      go_simp
      refine (implTo 1 cur acct (some ⟨b, 0, none⟩) k c (L.take k) _ (lx.keep k7) hs).mono ?_
      rw [← HN1.out]
      rintro e w8 ⟨rfl, b8⟩
      have k8 : Below W.heap.size W w8 := k7.trans (b8.mono k7.size)
      go_wp2_with fail
      refine hK.out _ _ (HMK.out _ k8) (fun hHeld => ?_)
      clear hK K
      try go_frame
      refine wpAnyH_ready (rs := [7]) (by kernel_rfl) (by simp) ?_
      refine consL rfl (fun K hK => ?_) AllReadyH.nil
      go_simp
      refine (implTo 2 cur acct (some ⟨b, k * 3, none⟩) (n - k) (c - k) (L.drop k) _ (ly.keep k8) hs).mono ?_
      rw [← HN2.out]
      rintro e w9 ⟨rfl, b9⟩
      have k9 : Below W.heap.size W w9 := k8.trans (b9.mono k8.size)
      go_wp2_with fail
      refine hK.out _ _ (HMK.out _ k9) (fun hHeld => ?_)
      clear hK K
      try go_frame
      refine wpAnyH_takeL (i := 8) (v := ?_) rfl (by kernel_rfl) (by kernel_rfl) (by kernel_rfl) (fun _ _ _ h => h) (Or.inl ⟨by rfl, ?_⟩) hHeld ?_
      rotate_left
      · (intro w hSw; (try dsimp only at hSw); go_simp; try with_reducible rfl)
      try go_frame
      refine wpAnyH_takeL (i := 10) (v := ?_) rfl (by kernel_rfl) (by kernel_rfl) (by kernel_rfl) (fun _ _ _ h => h) (Or.inl ⟨by rfl, ?_⟩) hHeld ?_
      rotate_left
      · (intro w hSw; (try dsimp only at hSw); go_simp; try with_reducible rfl)
      try go_frame
      refine wpAnyH_takeL (i := 11) (v := ?_) rfl (by kernel_rfl) (by kernel_rfl) (by kernel_rfl) (fun _ _ _ h => h) (Or.inl ⟨by rfl, ?_⟩) hHeld ?_
      rotate_left
      · (intro w hSw; (try dsimp only at hSw); go_simp; try with_reducible rfl)
      try go_frame
      refine wpAnyH_takeL (i := 12) (v := ?_) rfl (by kernel_rfl) (by kernel_rfl) (by kernel_rfl) (fun _ _ _ h => h) (Or.inl ⟨by rfl, ?_⟩) hHeld ?_
      rotate_left
      · (intro w hSw; (try dsimp only at hSw); go_simp; try with_reducible rfl)
      try go_frame
      refine wpAnyH_takeL (i := 13) (v := ?_) rfl (by kernel_rfl) (by kernel_rfl) (by kernel_rfl) (fun _ _ _ h => h) (Or.inl ⟨by rfl, ?_⟩) hHeld ?_
      rotate_left
      · (intro w hSw; (try dsimp only at hSw); go_simp; try with_reducible rfl)
      try go_frame
      refine wpAnyH_takeL (i := 15) (v := ?_) rfl (by kernel_rfl) (by kernel_rfl) (by kernel_rfl) (fun _ _ _ h => h) (Or.inl ⟨by rfl, ?_⟩) hHeld ?_
      rotate_left
      · (intro w hSw; (try dsimp only at hSw); go_simp; try with_reducible rfl)
      try go_frame
      refine wpAnyH_takeL (i := 16) (v := ?_) rfl (by kernel_rfl) (by kernel_rfl) (by kernel_rfl) (fun _ _ _ h => h) (Or.inl ⟨by rfl, ?_⟩) hHeld ?_
      rotate_left
      · (intro w hSw; (try dsimp only at hSw); go_simp; try with_reducible rfl)
      try go_frame
      refine wpAnyH_takeL (i := 19) (v := ?_) rfl (by kernel_rfl) (by kernel_rfl) (by kernel_rfl) (fun _ _ _ h => h) (Or.inl ⟨by rfl, ?_⟩) hHeld ?_
      rotate_left
      · (intro w hSw; (try dsimp only at hSw); go_simp; try with_reducible rfl)
      try go_frame
      refine wpAnyH_takeL (i := 20) (v := ?_) rfl (by kernel_rfl) (by kernel_rfl) (by kernel_rfl) (fun _ _ _ h => h) (Or.inl ⟨by rfl, ?_⟩) hHeld ?_
      rotate_left
      · (intro w hSw; (try dsimp only at hSw); go_simp; try with_reducible rfl)
      try go_frame
      refine wpAnyH_ready (rs := [14]) (by kernel_rfl) (by simp) ?_
      refine consL rfl (fun K hK => ?_) AllReadyH.nil
      go_simp
      refine (implSum 1 cur (some ⟨b, 0, none⟩) k c (L.take k) _ (lx.keep k9)).mono ?_
      rw [← HT1.out]
      rintro e w10 ⟨rfl, b10⟩
      have k10 : Below W.heap.size W w10 := k9.trans (b10.mono k9.size)
      go_wp2_with fail
      refine hK.out _ _ (HMK.out _ k10) (fun hHeld => ?_)
      clear hK K
      try go_frame
      refine wpAnyH_ready (rs := [17]) (by kernel_rfl) (by simp) ?_
      refine consL rfl (fun K hK => ?_) AllReadyH.nil
      go_simp
      refine (implSum 2 cur (some ⟨b, k * 3, none⟩) (n - k) (c - k) (L.drop k) _ (ly.keep k10)).mono ?_
      rw [← HT2.out]
      rintro e w11 ⟨rfl, b11⟩
      have k11 : Below W.heap.size W w11 := k10.trans (b11.mono k10.size)
      go_wp2_with fail
      refine hK.out _ _ (HMK.out _ k11) (fun hHeld => ?_)
      clear hK K
      try go_frame
      refine wpAnyH_takeL (i := 18) (v := ?_) rfl (by kernel_rfl) (by kernel_rfl) (by kernel_rfl) (fun _ _ _ h => h) (Or.inl ⟨by rfl, ?_⟩) hHeld ?_
      rotate_left
      · (intro w hSw; (try dsimp only at hSw); go_simp; try with_reducible rfl)
      try go_frame
      refine wpAnyH_ready (rs := [21]) (by kernel_rfl) (by simp) ?_
      refine consL rfl (fun K hK => ?_) AllReadyH.nil
      go_simp
      refine (implSum id cur (some ⟨b, 0, none⟩) n c L _ (lp.keep k11)).mono ?_
      rw [← HT.out]
      rintro e w12 ⟨rfl, b12⟩
      have k12 : Below W.heap.size W w12 := k11.trans (b12.mono k11.size)
      go_wp2_with fail
      refine hK.out _ _ (HMK.out _ k12) (fun hHeld => ?_)
      clear hK K
      try go_frame
      refine wpAnyH_takeL (i := 22) (v := ?_) rfl (by kernel_rfl) (by kernel_rfl) (by kernel_rfl) (fun _ _ _ h => h) (Or.inl ⟨by rfl, ?_⟩) hHeld ?_
      rotate_left
      · (intro w hSw; (try dsimp only at hSw); go_simp; try with_reducible rfl)
      try go_frame
      refine wpAnyH_takeL (i := 23) (v := ?_) rfl (by kernel_rfl) (by kernel_rfl) (by kernel_rfl) (fun _ _ _ h => h) (Or.inl ⟨by rfl, ?_⟩) hHeld ?_
      rotate_left
      · (intro w hSw; (try dsimp only at hSw); go_simp; try with_reducible rfl)
      try go_frame
      refine wpAnyH_takeL (i := 24) (v := ?_) rfl (by kernel_rfl) (by kernel_rfl) (by kernel_rfl) (fun _ _ _ h => h) (Or.inl ⟨by rfl, ?_⟩) hHeld ?_
      rotate_left
      · (intro w hSw; (try dsimp only at hSw); go_simp; try with_reducible rfl)
      try go_frame
      refine wpAnyH_takeL (i := 25) (v := ?_) rfl (by kernel_rfl) (by kernel_rfl) (by kernel_rfl) (fun _ _ _ h => h) (Or.inl ⟨by rfl, ?_⟩) hHeld ?_
      rotate_left
      · (intro w hSw; (try dsimp only at hSw); go_simp; try with_reducible rfl)
      try go_frame
      refine wpAnyH_ready (rs := [26]) (by kernel_rfl) (by simp) ?_
      refine consL rfl (fun K hK => ?_) AllReadyH.nil
      go_simp
      refine (implFair id (some ⟨b, 0, none⟩) n c L _ (lp.keep k12)).mono ?_
      rw [hF]
      rintro e w13 ⟨rfl, b13⟩
      have k13 : Below W.heap.size W w13 := k12.trans (b13.mono k12.size)
      go_wp2_with fail
      refine hK.out _ _ (HMK.out _ k13) (fun hHeld => ?_)
      clear hK K
      try go_frame
      refine wpAnyH_takeL (i := 27) (v := ?_) rfl (by kernel_rfl) (by kernel_rfl) (by kernel_rfl) (fun _ _ _ h => h) (Or.inl ⟨by rfl, ?_⟩) hHeld ?_
      rotate_left
      · (intro w hSw; (try dsimp only at hSw); go_simp; try with_reducible rfl)
      try go_frame
      refine wpAnyH_takeL (i := 28) (v := ?_) rfl (by kernel_rfl) (by kernel_rfl) (by kernel_rfl) (fun _ _ _ h => h) (Or.inl ⟨by rfl, ?_⟩) hHeld ?_
      rotate_left
      · (intro w hSw; (try dsimp only at hSw); go_simp; try with_reducible rfl)
      try go_frame
      refine wpAnyH_takeL (i := 29) (v := undef) rfl (by kernel_rfl) (by kernel_rfl) (by kernel_rfl) (fun _ _ _ h => h) (Or.inr ⟨by rfl, rfl⟩) hHeld ?_
      try go_frame
      refine wpAnyH_takeL (i := 31) (v := undef) rfl (by kernel_rfl) (by kernel_rfl) (by kernel_rfl) (fun _ _ _ h => h) (Or.inr ⟨by rfl, rfl⟩) hHeld ?_
      try go_frame
      refine wpAnyH_ready (rs := [30]) (by kernel_rfl) (by simp) ?_
      refine consL rfl (fun K hK => ?_) AllReadyH.nil
      go_simp
      refine hK.out _ _ (HMK.out _ k13) (fun hHeld => ?_)
      clear hK K
      try go_frame
      refine wpAnyH_ready (rs := [32]) (by kernel_rfl) (by simp) ?_
      refine consL rfl (fun K hK => ?_) AllReadyH.nil
      go_simp
      refine hK.out _ _ (HMK.out _ k13) (fun hHeld => ?_)
      clear hK K
      try go_frame
      refine wpAnyH_takeL (i := 33) (v := undef) rfl (by kernel_rfl) (by kernel_rfl) (by kernel_rfl) (fun _ _ _ h => h) (Or.inr ⟨by rfl, rfl⟩) hHeld ?_
      try go_frame
      refine wpAnyH_takeL (i := 34) (v := ?_) rfl (by kernel_rfl) (by kernel_rfl) (by kernel_rfl) (fun _ _ _ h => h) (Or.inl ⟨by rfl, ?_⟩) hHeld ?_
      rotate_left
      · (intro w hSw; (try dsimp only at hSw); go_simp; try with_reducible rfl)
      try go_frame
      refine wpAnyH_takeL (i := 35) (v := ?_) rfl (by kernel_rfl) (by kernel_rfl) (by kernel_rfl) (fun _ _ _ h => h) (Or.inl ⟨by rfl, ?_⟩) hHeld ?_
      rotate_left
      · (intro w hSw; (try dsimp only at hSw); go_simp; try with_reducible rfl)
      try go_frame
      refine wpAnyH_takeL (i := 36) (v := ?_) rfl (by kernel_rfl) (by kernel_rfl) (by kernel_rfl) (fun _ _ _ h => h) (Or.inl ⟨by rfl, ?_⟩) hHeld ?_
      rotate_left
      · (intro w hSw; (try dsimp only at hSw); go_simp; try with_reducible rfl)
      try go_frame
      refine wpAnyH_done (by kernel_rfl) ?_ _
      go_wp2
      go_ret
      exact ⟨rfl, hB7.trans (k13.mono hB7.size)⟩
    | true =>
      obtain ⟨q, hq⟩ : ∃ q, q = fairB 1 (L.take k) := ⟨_, rfl⟩
      have HQ1 : Hid (fairB 1 (L.take k) = q) := hq.symm
      have HQ2 : Hid (fairB 2 (L.drop k) = q) := (fair_cut hok hF hk1 (by omega)).symm.trans hq.symm
      clear hq
      go_region_held3 (fun w' => w'.cell? ⟨X, 0, none⟩ = some (.int .i64 1) ∧ w'.cell? ⟨X, 1, none⟩ = some (.slice (some ⟨b, 0, none⟩) k c) ∧ w'.cell? ⟨X + 1, 0, none⟩ = some (.int .i64 2) ∧ w'.cell? ⟨X + 1, 1, none⟩ = some (.slice (some ⟨b, k * 3, none⟩) (n - k) (c - k)) ∧ w'.cell? ⟨B, 0, none⟩ = some (.int .i64 id) ∧ w'.cell? ⟨B, 1, none⟩ = some (.slice (some ⟨b, 0, none⟩) n c) ∧ Below W.heap.size W w') (first | exact HMK.out _ k15 | exact HMK.out _ k14 | exact HMK.out _ k13 | exact HMK.out _ k12 | exact HMK.out _ k11 | exact HMK.out _ k10 | exact HMK.out _ k9 | exact HMK.out _ k8 | exact HMK.out _ k7) (first
        | (go_at_call 15; refine (implFair 2 (some ⟨b, k * 3, none⟩) (n - k) (c - k) (L.drop k) _ (ly.keep k14)).mono ?_; rw [HQ2.out]; rintro e w15 ⟨rfl, b15⟩; have k15 : Below W.heap.size W w15 := k14.trans (b15.mono k14.size))
        | (go_at_call 15; refine (implFair 1 (some ⟨b, 0, none⟩) k c (L.take k) _ (lx.keep k13)).mono ?_; rw [HQ1.out]; rintro e w14 ⟨rfl, b14⟩; have k14 : Below W.heap.size W w14 := k13.trans (b14.mono k13.size))
        | (go_at_call 15; refine (implFair id (some ⟨b, 0, none⟩) n c L _ (lp.keep k12)).mono ?_; rw [hF]; rintro e w13 ⟨rfl, b13⟩; have k13 : Below W.heap.size W w13 := k12.trans (b13.mono k12.size))
        | (go_at_call 16; refine (implSum id cur (some ⟨b, 0, none⟩) n c L _ (lp.keep k11)).mono ?_; rw [← HT.out]; rintro e w12 ⟨rfl, b12⟩; have k12 : Below W.heap.size W w12 := k11.trans (b12.mono k11.size))
        | (go_at_call 16; refine (implSum 2 cur (some ⟨b, k * 3, none⟩) (n - k) (c - k) (L.drop k) _ (ly.keep k10)).mono ?_; rw [← HT2.out]; rintro e w11 ⟨rfl, b11⟩; have k11 : Below W.heap.size W w11 := k10.trans (b11.mono k10.size))
        | (go_at_call 16; refine (implSum 1 cur (some ⟨b, 0, none⟩) k c (L.take k) _ (lx.keep k9)).mono ?_; rw [← HT1.out]; rintro e w10 ⟨rfl, b10⟩; have k10 : Below W.heap.size W w10 := k9.trans (b10.mono k9.size))
        | (go_at_call 12; refine (implTo 2 cur acct (some ⟨b, k * 3, none⟩) (n - k) (c - k) (L.drop k) _ (ly.keep k8) hs).mono ?_; rw [← HN2.out]; rintro e w9 ⟨rfl, b9⟩; have k9 : Below W.heap.size W w9 := k8.trans (b9.mono k8.size))
        | (go_at_call 12; refine (implTo 1 cur acct (some ⟨b, 0, none⟩) k c (L.take k) _ (lx.keep k7) hs).mono ?_; rw [← HN1.out]; rintro e w8 ⟨rfl, b8⟩; have k8 : Below W.heap.size W w8 := k7.trans (b8.mono k7.size)))
      all_goals
        go_wp2
        go_ret
        exact ⟨rfl, hB7.trans (k15.mono hB7.size)⟩
end Go.Proofs.Ytmolncbeaefjpaa
