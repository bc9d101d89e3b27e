/-
  The walk of the law FnRunCut: it answers true at all bytes: a run cut between two keys has in both its parts what it had.
-/
import Derived.Test.YtkhnknpacdmikaaDrawFind
import Derived.Test.YtkhnknpacdmikaaRunMayI
import Derived.Test.YtkhnknpacdmikaaFindO
import Derived.Test.YtkhnknpacdmikaaFindX
import Derived.Test.YtkhnknpacdmikaaRunOfX
import Derived.Test.YtkhnknpacdmikaaCutP
import Derived.Test.YtkhnknpacdmikaaWpEnts
namespace Go.Proofs.Ytkhnknpacdmikaa
open Go.RowKit

set_option maxRecDepth 100000 in
set_option maxHeartbeats 4000000 in
theorem walkFnRunCut (a : Option Addr) (len cap : Nat) (b : Option Addr) (ml mc : Nat) (w : World) (h : BytesAt w a len cap) (h' : BytesAt w b ml mc) :
    Calls Try.prog 6 #[.slice a len cap, .slice b ml mc] w fun e w' => e = .returned (.bool true) ∧ Below w.heap.size w w' := by
  have H : Hid (BytesAt w a len cap) := h
  have hm := Nat.le_trans h.1 h.2.1
  have hm' := Nat.le_trans h'.1 h'.2.1
  unfold maxLen at hm hm'
  clear h h'
  by_cases hbig : 1048576 < len
  · go_enter Try.func6, Try.ntmps6
    go_wp2
    go_ret
    exact ⟨rfl, Below.refl _ _⟩
  by_cases hbig2 : 1048576 < ml
  · go_enter Try.func6, Try.ntmps6
    go_wp2
    go_ret
    exact ⟨rfl, Below.refl _ _⟩
  go_enter Try.func6, Try.ntmps6
  go_wp2_with fail
  refine (drawFind_any a len cap w H.out).mono ?_
  rintro e w1 ⟨g, n, c, m, L, key, seq, rfl, hO, hn, hF, hM, hK, hsq, hb1⟩
  have hkey : key.size ≤ maxLen := by have := hK.1; unfold maxLen; omega
  obtain ⟨X, hX⟩ : ∃ X, X = w1.heap.size := ⟨_, rfl⟩
  obtain ⟨W, hW⟩ : ∃ W, W = w1.alloc (.cells #[.slice (some ⟨g, 0, none⟩) n c, .int .i64 m] 26) := ⟨_, rfl⟩
  have kW : Below w1.heap.size w1 W := by rw [hW]; exact (Below.refl _ _).alloc (Nat.le_refl _) _
  have x0 : W.cell? ⟨X, 0, none⟩ = some (.slice (some ⟨g, 0, none⟩) n c) := by rw [hW, hX]; simp
  have x1 : W.cell? ⟨X, 1, none⟩ = some (.int .i64 m) := by rw [hW, hX]; simp
  have E : Hid (EntsAt W (some ⟨g, 0, none⟩) n c L) := hO.entsAt.keep kW
  have HLN : Hid (L.length = n) := hO.len
  have KW : Hid (Below w.heap.size w W) := hb1.trans (kW.mono hb1.size)
  obtain ⟨F, hFF⟩ : ∃ F, F = foundL L m key seq := ⟨_, rfl⟩
  have HFF : Hid (F = foundL L m key seq) := hFF
  obtain ⟨O, hOk⟩ : ∃ O, O = runB L m := ⟨_, rfl⟩
  have HOK : Hid (O = runB L m) := hOk
  have CF : Hid (∀ w', Below W.heap.size W w' → Calls Try.prog 19 #[.agg #[.slice (some ⟨g, 0, none⟩) n c, .int .i64 m], .string key, .int .i64 seq] w' (FoundV F w')) := by rw [hFF]; exact fun w' k => implFind _ _ _ L m key seq w' (E.out.keep k) (by omega)
  have CSF : Hid (∀ w', Below W.heap.size W w' → Calls Try.prog 22 #[.agg #[.slice (some ⟨g, 0, none⟩) n c, .int .i64 m], .string key, .int .i64 seq] w' (FoundR F w')) := by rw [hFF]; exact fun w' k => specFind _ _ _ L m key seq w' (E.out.keep k) (by omega)
  have COS : Hid (∀ w', Below W.heap.size W w' → Calls Try.prog 18 #[.agg #[.slice (some ⟨g, 0, none⟩) n c, .int .i64 m]] w' fun e w'' => e = .returned (.bool O) ∧ Below w'.heap.size w' w'') := by rw [hOk]; exact fun w' k => specRunOk _ _ _ L m w' (E.out.keep k)
  clear hFF hOk hO hb1 hF hM hK kW
  go_wp2_with fail
  rw [← hW, ← hX]
  clear hW hX
  refine (CF.out _ (Below.refl _ _)).mono ?_
  rintro e w2 hfv
  obtain ⟨al, nl, cl, rfl, hOF, hb2⟩ := foundV_own hfv
  have F2 : Hid (EntsAt w2 al nl cl F) := hOF.entsAt
  have HFN : Hid (F.length = nl) := hOF.len
  have K2 : Hid (Below W.heap.size W w2) := hb2
  have x0 := cell_later hb2 x0
  have x1 := cell_later hb2 x1
  have zx := World.block_lt_of_cell? _ _ x0
  simp only at zx
  have CW : Hid (∀ w' g' n' c', Below w2.heap.size w2 w' → EntsAt w' (some ⟨g', 0, none⟩) n' c' F → Calls Try.prog 21 #[.slice al nl cl, .slice (some ⟨g', 0, none⟩) n' c'] w' fun e w'' => e = .returned (.bool true) ∧ Below w'.heap.size w' w'') := by
    intro w' g' n' c' k hE'
    have := wpEnts_any al (some ⟨g', 0, none⟩) nl cl n' c' F F w' (F2.out.keep k) hE'
    rw [decide_eq_true rfl] at this
    exact this
  clear hfv hOF hb2 CF
  go_wp2_with fail
  refine (CSF.out _ K2.out).mono ?_
  rintro e w3 ⟨g3, n3, c3, rfl, hO3, hb3⟩
  have E3 : Hid (EntsAt w3 (some ⟨g3, 0, none⟩) n3 c3 F) := hO3.entsAt
  have K3 : Hid (Below w2.heap.size w2 w3) := hb3
  clear hO3 hb3
  go_wp2_with fail
  refine (CW.out w3 g3 n3 c3 K3.out E3.out).mono ?_
  rintro e w4 ⟨rfl, hb4⟩
  have K4 : Hid (Below w2.heap.size w2 w4) := K3.out.trans (hb4.mono K3.out.size)
  have v0 := cell_later K4.out x0
  have v1 := cell_later K4.out x1
  have zv := World.block_lt_of_cell? _ _ v0
  simp only at zv
  clear hb4 K3 E3
  go_wp2_with fail
  refine (COS.out _ (K2.out.trans (K4.out.mono K2.out.size))).mono ?_
  rintro e w5 ⟨rfl, hb5⟩
  have K5 : Hid (Below w2.heap.size w2 w5) := K4.out.trans (hb5.mono K4.out.size)
  have v0 := cell_later hb5 v0
  have v1 := cell_later hb5 v1
  have zv := World.block_lt_of_cell? _ _ v0
  simp only at zv
  clear hb5 K4
  have KA : Hid (Below w.heap.size w w2) := KW.out.trans (K2.out.mono KW.out.size)
  cases hO : O with
  | false =>
    subst hO
    go_wp2_with fail
    refine (CSF.out _ (K2.out.trans (K5.out.mono K2.out.size))).mono ?_
    rintro e w6 ⟨g6, n6, c6, rfl, hO6, hb6⟩
    have E6 : Hid (EntsAt w6 (some ⟨g6, 0, none⟩) n6 c6 F) := hO6.entsAt
    have K6 : Hid (Below w2.heap.size w2 w6) := K5.out.trans (hb6.mono K5.out.size)
    clear hO6 hb6
    go_wp2_with fail
    refine (CW.out w6 g6 n6 c6 K6.out E6.out).mono ?_
    rintro e w7 ⟨rfl, hb7⟩
    have K7 : Hid (Below w2.heap.size w2 w7) := K6.out.trans (hb7.mono K6.out.size)
    clear hb7 K6 E6
    go_wp2
    go_ret
    exact ⟨rfl, KA.out.trans (K7.out.mono KA.out.size)⟩
  | true =>
    subst hO
    have HR : Hid (runB L m = true) := HOK.out.symm
    obtain ⟨h1, h2, h3, h4⟩ := runB_parts HR.out
    have HRT : Hid (rightB L = true) := h3
    have hn1 : 1 ≤ n := by rw [← HLN.out]; exact h1
    have hnp : 0 < n := hn1
    have hnz : ¬ (n : Int) = 0 := by omega
    have E2 : Hid (EntsAt w2 (some ⟨g, 0, none⟩) n c L) := E.out.keep K2.out
    have HFL : Hid (F = findL L key seq) := by rw [HFF.out]; exact found_yes HR.out
    clear h1 h2 h3 h4 HOK E CSF COS
    have hml : ml % n < n := Nat.mod_lt _ hnp
    have hmm : ((ml : Int) % (n : Int)) = ((ml % n : Nat) : Int) := by first | exact (Int.natCast_emod ml n).symm | rfl
    go_wp2
    go_loopw [9] (fun kv wr => ∃ k : Nat, k < n ∧ kv = .int .i64 k ∧ Below w2.heap.size w2 wr) (fun kv _ => (intOf kv).toNat)
    case atStart => exact ⟨ml % n, hml, by rw [hmm], K5.out⟩
    case round =>
      obtain ⟨k, hk, rfl, hb⟩ := hrel
      have y0 := cell_later hb x0
      have zy := World.block_lt_of_cell? _ _ y0
      simp only at zy
      have k0 : Below wr.heap.size wr wr.drew := (Below.refl _ wr).drew
      have HBK : Hid (Below w2.heap.size w2 wr) := hb
      clear v0 v1 zv hml hmm
      by_cases hk0 : k = 0
      · subst hk0
        have HMK : Hid (∀ w', Below wr.heap.size wr w' → (w'.cell? ⟨X, 0, none⟩ = some (.slice (some ⟨g, 0, none⟩) n c) ∧ X < w'.heap.size)) := fun w' kk => ⟨cell_later kk y0, World.block_lt_of_cell? _ _ (cell_later kk y0)⟩
        go_wp2_with fail
        refine wp_region_held_drew (S := (fun w' => w'.cell? ⟨X, 0, none⟩ = some (.slice (some ⟨g, 0, none⟩) n c) ∧ X < w'.heap.size)) (by kernel_rfl) (HMK.out _ k0) (fun hHeld => ?_)
        refine wpAnyH_takeL (i := 0) (v := ?_) rfl (by kernel_rfl) (by kernel_rfl) (by kernel_rfl) (fun _ _ _ h => h) (Or.inl ⟨by rfl, ?_⟩) hHeld ?_
        rotate_left
        · (intro w hSw; (try dsimp only at hSw); go_simp; try with_reducible rfl)
        try go_frame
        refine wpAnyH_takeL (i := 1) (v := ?_) rfl (by kernel_rfl) (by kernel_rfl) (by kernel_rfl) (fun _ _ _ h => h) (Or.inl ⟨by rfl, ?_⟩) hHeld ?_
        rotate_left
        · (intro w hSw; (try dsimp only at hSw); go_simp; try with_reducible rfl)
        try go_frame
        refine wpAnyH_takeL (i := 2) (v := ?_) rfl (by kernel_rfl) (by kernel_rfl) (by kernel_rfl) (fun _ _ _ h => h) (Or.inl ⟨by rfl, ?_⟩) hHeld ?_
        rotate_left
        · (intro w hSw; (try dsimp only at hSw); go_simp; try with_reducible rfl)
        try go_frame
        refine wpAnyH_takeL (i := 3) (v := undef) rfl (by kernel_rfl) (by kernel_rfl) (by kernel_rfl) (fun _ _ _ h => h) (Or.inr ⟨by rfl, rfl⟩) hHeld ?_
        try go_frame
        refine wpAnyH_takeL (i := 4) (v := undef) rfl (by kernel_rfl) (by kernel_rfl) (by kernel_rfl) (fun _ _ _ h => h) (Or.inr ⟨by rfl, rfl⟩) hHeld ?_
        try go_frame
        refine wpAnyH_takeL (i := 5) (v := undef) rfl (by kernel_rfl) (by kernel_rfl) (by kernel_rfl) (fun _ _ _ h => h) (Or.inr ⟨by rfl, rfl⟩) hHeld ?_
        try go_frame
        refine wpAnyH_takeL (i := 6) (v := undef) rfl (by kernel_rfl) (by kernel_rfl) (by kernel_rfl) (fun _ _ _ h => h) (Or.inr ⟨by rfl, rfl⟩) hHeld ?_
        try go_frame
        refine wpAnyH_takeL (i := 7) (v := undef) rfl (by kernel_rfl) (by kernel_rfl) (by kernel_rfl) (fun _ _ _ h => h) (Or.inr ⟨by rfl, rfl⟩) hHeld ?_
        try go_frame
        refine wpAnyH_takeL (i := 8) (v := undef) rfl (by kernel_rfl) (by kernel_rfl) (by kernel_rfl) (fun _ _ _ h => h) (Or.inr ⟨by rfl, rfl⟩) hHeld ?_
        try go_frame
        refine wpAnyH_takeL (i := 9) (v := undef) rfl (by kernel_rfl) (by kernel_rfl) (by kernel_rfl) (fun _ _ _ h => h) (Or.inr ⟨by rfl, rfl⟩) hHeld ?_
        try go_frame
        refine wpAnyH_takeL (i := 10) (v := undef) rfl (by kernel_rfl) (by kernel_rfl) (by kernel_rfl) (fun _ _ _ h => h) (Or.inr ⟨by rfl, rfl⟩) hHeld ?_
        try go_frame
        refine wpAnyH_takeL (i := 11) (v := undef) rfl (by kernel_rfl) (by kernel_rfl) (by kernel_rfl) (fun _ _ _ h => h) (Or.inr ⟨by rfl, rfl⟩) hHeld ?_
        try go_frame
        refine wpAnyH_takeL (i := 12) (v := undef) rfl (by kernel_rfl) (by kernel_rfl) (by kernel_rfl) (fun _ _ _ h => h) (Or.inr ⟨by rfl, rfl⟩) hHeld ?_
        try go_frame
        refine wpAnyH_takeL (i := 13) (v := undef) rfl (by kernel_rfl) (by kernel_rfl) (by kernel_rfl) (fun _ _ _ h => h) (Or.inr ⟨by rfl, rfl⟩) hHeld ?_
        try go_frame
        refine wpAnyH_takeL (i := 14) (v := undef) rfl (by kernel_rfl) (by kernel_rfl) (by kernel_rfl) (fun _ _ _ h => h) (Or.inr ⟨by rfl, rfl⟩) hHeld ?_
        try go_frame
        refine wpAnyH_takeL (i := 15) (v := undef) rfl (by kernel_rfl) (by kernel_rfl) (by kernel_rfl) (fun _ _ _ h => h) (Or.inr ⟨by rfl, rfl⟩) hHeld ?_
        try go_frame
        refine wpAnyH_takeL (i := 16) (v := undef) rfl (by kernel_rfl) (by kernel_rfl) (by kernel_rfl) (fun _ _ _ h => h) (Or.inr ⟨by rfl, rfl⟩) hHeld ?_
        try go_frame
        refine wpAnyH_takeL (i := 17) (v := ?_) rfl (by kernel_rfl) (by kernel_rfl) (by kernel_rfl) (fun _ _ _ h => h) (Or.inl ⟨by rfl, ?_⟩) hHeld ?_
        rotate_left
        · (intro w hSw; (try dsimp only at hSw); go_simp; try with_reducible rfl)
        try go_frame
        refine wpAnyH_done (by kernel_rfl) ?_ _
        have KZ : Hid (Below w2.heap.size w2 wr.drew) := HBK.out.trans (k0.mono HBK.out.size)
        clear k0 HMK hHeld hb
        go_wp2
        go_ret
        exact ⟨rfl, KA.out.trans (KZ.out.mono KA.out.size)⟩
      · have hkp : 0 < k := by omega
        have hkI : (0 : Int) < (k : Int) := by omega
        have hkn : (k : Int) < (n : Int) := by omega
        have hj1 : (0 : Int) ≤ (k : Int) - 1 := by omega
        have hj2 : (k : Int) - 1 < (n : Int) := by omega
        have hj3 : (1 : Int) ≤ (k : Int) := by omega
        have hjt : ((k : Int) - 1).toNat = k - 1 := by omega
        have wj : IntKind.i64.wrap ((k : Int) - 1) = (k : Int) - 1 := by rw [IntWalk.i64_left]; unfold wrap64; omega
        have hgl := (E2.out.lies _ rfl (by omega)).1
        simp only at hgl
        obtain ⟨s, q, d, t, nn, hg, _, g0, g1, g2, g3, g4⟩ := E2.out.ent hb hgl k hk
        obtain ⟨s', q', d', t', nn', hg', _, e0, e1, e2, e3, e4⟩ := E2.out.ent hb hgl (k - 1) (by omega)
        simp only [Nat.zero_add] at g0 e0
        have zg := World.block_lt_of_cell? _ _ g0
        simp only at zg
        clear g1 g2 g3 g4 e1 e2 e3 e4 hgl hg hg'
        have HMK : Hid (∀ w', Below wr.heap.size wr w' → (w'.cell? ⟨X, 0, none⟩ = some (.slice (some ⟨g, 0, none⟩) n c) ∧ X < w'.heap.size ∧ w'.cell? ⟨g, k * 5, none⟩ = some (.string s) ∧ w'.cell? ⟨g, (k - 1) * 5, none⟩ = some (.string s') ∧ g < w'.heap.size)) := fun w' kk => ⟨cell_later kk y0, World.block_lt_of_cell? _ _ (cell_later kk y0), cell_later kk g0, cell_later kk e0, World.block_lt_of_cell? _ _ (cell_later kk g0)⟩
        by_cases hss : s = s'
        · subst hss
          go_wp2_with fail
          refine wp_region_held_drew (S := (fun w' => w'.cell? ⟨X, 0, none⟩ = some (.slice (some ⟨g, 0, none⟩) n c) ∧ X < w'.heap.size ∧ w'.cell? ⟨g, k * 5, none⟩ = some (.string s) ∧ w'.cell? ⟨g, (k - 1) * 5, none⟩ = some (.string s) ∧ g < w'.heap.size)) (by kernel_rfl) (HMK.out _ k0) (fun hHeld => ?_)
          refine wpAnyH_takeL (i := 0) (v := ?_) rfl (by kernel_rfl) (by kernel_rfl) (by kernel_rfl) (fun _ _ _ h => h) (Or.inl ⟨by rfl, ?_⟩) hHeld ?_
          rotate_left
          · (intro w hSw; (try dsimp only at hSw); go_simp; try with_reducible rfl)
          try go_frame
          refine wpAnyH_takeL (i := 1) (v := ?_) rfl (by kernel_rfl) (by kernel_rfl) (by kernel_rfl) (fun _ _ _ h => h) (Or.inl ⟨by rfl, ?_⟩) hHeld ?_
          rotate_left
          · (intro w hSw; (try dsimp only at hSw); go_simp; try with_reducible rfl)
          try go_frame
          refine wpAnyH_takeL (i := 2) (v := ?_) rfl (by kernel_rfl) (by kernel_rfl) (by kernel_rfl) (fun _ _ _ h => h) (Or.inl ⟨by rfl, ?_⟩) hHeld ?_
          rotate_left
          · (intro w hSw; (try dsimp only at hSw); go_simp; try with_reducible rfl)
          try go_frame
          refine wpAnyH_takeL (i := 3) (v := ?_) rfl (by kernel_rfl) (by kernel_rfl) (by kernel_rfl) (fun _ _ _ h => h) (Or.inl ⟨by rfl, ?_⟩) hHeld ?_
          rotate_left
          · (intro w hSw; (try dsimp only at hSw); go_simp; try with_reducible rfl)
          try go_frame
          refine wpAnyH_takeL (i := 4) (v := ?_) rfl (by kernel_rfl) (by kernel_rfl) (by kernel_rfl) (fun _ _ _ h => h) (Or.inl ⟨by rfl, ?_⟩) hHeld ?_
          rotate_left
          · (intro w hSw; (try dsimp only at hSw); go_simp; try with_reducible rfl)
          try go_frame
          refine wpAnyH_takeL (i := 5) (v := ?_) rfl (by kernel_rfl) (by kernel_rfl) (by kernel_rfl) (fun _ _ _ h => h) (Or.inl ⟨by rfl, ?_⟩) hHeld ?_
          rotate_left
          · (intro w hSw; (try dsimp only at hSw); go_simp; try with_reducible rfl)
          try go_frame
          refine wpAnyH_takeL (i := 6) (v := ?_) rfl (by kernel_rfl) (by kernel_rfl) (by kernel_rfl) (fun _ _ _ h => h) (Or.inl ⟨by rfl, ?_⟩) hHeld ?_
          rotate_left
          · (intro w hSw; (try dsimp only at hSw); go_simp; try with_reducible rfl)
          try go_frame
          refine wpAnyH_takeL (i := 7) (v := ?_) rfl (by kernel_rfl) (by kernel_rfl) (by kernel_rfl) (fun _ _ _ h => h) (Or.inl ⟨by rfl, ?_⟩) hHeld ?_
          rotate_left
          · (intro w hSw; (try dsimp only at hSw); go_simp; try with_reducible rfl)
          try go_frame
          refine wpAnyH_takeL (i := 8) (v := ?_) rfl (by kernel_rfl) (by kernel_rfl) (by kernel_rfl) (fun _ _ _ h => h) (Or.inl ⟨by rfl, ?_⟩) hHeld ?_
          rotate_left
          · (intro w hSw; (try dsimp only at hSw); go_simp; try with_reducible rfl)
          try go_frame
          refine wpAnyH_takeL (i := 9) (v := ?_) rfl (by kernel_rfl) (by kernel_rfl) (by kernel_rfl) (fun _ _ _ h => h) (Or.inl ⟨by rfl, ?_⟩) hHeld ?_
          rotate_left
          · (intro w hSw; (try dsimp only at hSw); go_simp; try with_reducible rfl)
          try go_frame
          refine wpAnyH_takeL (i := 10) (v := ?_) rfl (by kernel_rfl) (by kernel_rfl) (by kernel_rfl) (fun _ _ _ h => h) (Or.inl ⟨by rfl, ?_⟩) hHeld ?_
          rotate_left
          · (intro w hSw; (try dsimp only at hSw); go_simp; try with_reducible rfl)
          try go_frame
          refine wpAnyH_takeL (i := 11) (v := ?_) rfl (by kernel_rfl) (by kernel_rfl) (by kernel_rfl) (fun _ _ _ h => h) (Or.inl ⟨by rfl, ?_⟩) hHeld ?_
          rotate_left
          · (intro w hSw; (try dsimp only at hSw); go_simp; try with_reducible rfl)
          try go_frame
          refine wpAnyH_takeL (i := 12) (v := ?_) rfl (by kernel_rfl) (by kernel_rfl) (by kernel_rfl) (fun _ _ _ h => h) (Or.inl ⟨by rfl, ?_⟩) hHeld ?_
          rotate_left
          · (intro w hSw; (try dsimp only at hSw); go_simp; try with_reducible rfl)
          try go_frame
          refine wpAnyH_takeL (i := 13) (v := ?_) rfl (by kernel_rfl) (by kernel_rfl) (by kernel_rfl) (fun _ _ _ h => h) (Or.inl ⟨by rfl, ?_⟩) hHeld ?_
          rotate_left
          · (intro w hSw; (try dsimp only at hSw); go_simp; try with_reducible rfl)
          try go_frame
          refine wpAnyH_takeL (i := 14) (v := ?_) rfl (by kernel_rfl) (by kernel_rfl) (by kernel_rfl) (fun _ _ _ h => h) (Or.inl ⟨by rfl, ?_⟩) hHeld ?_
          rotate_left
          · (intro w hSw; (try dsimp only at hSw); go_simp; try with_reducible rfl)
          try go_frame
          refine wpAnyH_takeL (i := 15) (v := ?_) rfl (by kernel_rfl) (by kernel_rfl) (by kernel_rfl) (fun _ _ _ h => h) (Or.inl ⟨by rfl, ?_⟩) hHeld ?_
          rotate_left
          · (intro w hSw; (try dsimp only at hSw); go_simp; try with_reducible rfl)
          try go_frame
          refine wpAnyH_takeL (i := 16) (v := ?_) rfl (by kernel_rfl) (by kernel_rfl) (by kernel_rfl) (fun _ _ _ h => h) (Or.inl ⟨by rfl, ?_⟩) hHeld ?_
          rotate_left
          · (intro w hSw; (try dsimp only at hSw); go_simp; try with_reducible rfl)
          try go_frame
          refine wpAnyH_takeL (i := 17) (v := ?_) rfl (by kernel_rfl) (by kernel_rfl) (by kernel_rfl) (fun _ _ _ h => h) (Or.inl ⟨by rfl, ?_⟩) hHeld ?_
          rotate_left
          · (intro w hSw; (try dsimp only at hSw); go_simp; try with_reducible rfl)
          try go_frame
          refine wpAnyH_done (by kernel_rfl) ?_ _
          have KZ : Hid (Below w2.heap.size w2 wr.drew) := HBK.out.trans (k0.mono HBK.out.size)
          clear k0 HMK hHeld hb
          go_wp2
          go_roundw
          case rel => exact ⟨k - 1, by omega, by congr 1; omega, KZ.out⟩
          case measure => simp [intOf]; omega
        · have hne : ¬ s.toList = s'.toList := by
            rw [ByteArray.toList_eq, ByteArray.toList_eq]
            intro h
            exact hss (ByteArray.ext (Array.toList_inj.1 h))
          have hne' : (s.toList == s'.toList) = false := by simpa using hne
          clear hss
          go_wp2_with fail
          refine wp_region_held_drew (S := (fun w' => w'.cell? ⟨X, 0, none⟩ = some (.slice (some ⟨g, 0, none⟩) n c) ∧ X < w'.heap.size ∧ w'.cell? ⟨g, k * 5, none⟩ = some (.string s) ∧ w'.cell? ⟨g, (k - 1) * 5, none⟩ = some (.string s') ∧ g < w'.heap.size)) (by kernel_rfl) (HMK.out _ k0) (fun hHeld => ?_)
          refine wpAnyH_takeL (i := 0) (v := ?_) rfl (by kernel_rfl) (by kernel_rfl) (by kernel_rfl) (fun _ _ _ h => h) (Or.inl ⟨by rfl, ?_⟩) hHeld ?_
          rotate_left
          · (intro w hSw; (try dsimp only at hSw); go_simp; try with_reducible rfl)
          try go_frame
          refine wpAnyH_takeL (i := 1) (v := ?_) rfl (by kernel_rfl) (by kernel_rfl) (by kernel_rfl) (fun _ _ _ h => h) (Or.inl ⟨by rfl, ?_⟩) hHeld ?_
          rotate_left
          · (intro w hSw; (try dsimp only at hSw); go_simp; try with_reducible rfl)
          try go_frame
          refine wpAnyH_takeL (i := 2) (v := ?_) rfl (by kernel_rfl) (by kernel_rfl) (by kernel_rfl) (fun _ _ _ h => h) (Or.inl ⟨by rfl, ?_⟩) hHeld ?_
          rotate_left
          · (intro w hSw; (try dsimp only at hSw); go_simp; try with_reducible rfl)
          try go_frame
          refine wpAnyH_takeL (i := 3) (v := ?_) rfl (by kernel_rfl) (by kernel_rfl) (by kernel_rfl) (fun _ _ _ h => h) (Or.inl ⟨by rfl, ?_⟩) hHeld ?_
          rotate_left
          · (intro w hSw; (try dsimp only at hSw); go_simp; try with_reducible rfl)
          try go_frame
          refine wpAnyH_takeL (i := 4) (v := ?_) rfl (by kernel_rfl) (by kernel_rfl) (by kernel_rfl) (fun _ _ _ h => h) (Or.inl ⟨by rfl, ?_⟩) hHeld ?_
          rotate_left
          · (intro w hSw; (try dsimp only at hSw); go_simp; try with_reducible rfl)
          try go_frame
          refine wpAnyH_takeL (i := 5) (v := ?_) rfl (by kernel_rfl) (by kernel_rfl) (by kernel_rfl) (fun _ _ _ h => h) (Or.inl ⟨by rfl, ?_⟩) hHeld ?_
          rotate_left
          · (intro w hSw; (try dsimp only at hSw); go_simp; try with_reducible rfl)
          try go_frame
          refine wpAnyH_takeL (i := 6) (v := ?_) rfl (by kernel_rfl) (by kernel_rfl) (by kernel_rfl) (fun _ _ _ h => h) (Or.inl ⟨by rfl, ?_⟩) hHeld ?_
          rotate_left
          · (intro w hSw; (try dsimp only at hSw); go_simp; try with_reducible rfl)
          try go_frame
          refine wpAnyH_takeL (i := 7) (v := ?_) rfl (by kernel_rfl) (by kernel_rfl) (by kernel_rfl) (fun _ _ _ h => h) (Or.inl ⟨by rfl, ?_⟩) hHeld ?_
          rotate_left
          · (intro w hSw; (try dsimp only at hSw); go_simp; try with_reducible rfl)
          try go_frame
          refine wpAnyH_takeL (i := 8) (v := ?_) rfl (by kernel_rfl) (by kernel_rfl) (by kernel_rfl) (fun _ _ _ h => h) (Or.inl ⟨by rfl, ?_⟩) hHeld ?_
          rotate_left
          · (intro w hSw; (try dsimp only at hSw); go_simp; try with_reducible rfl)
          try go_frame
          refine wpAnyH_takeL (i := 9) (v := ?_) rfl (by kernel_rfl) (by kernel_rfl) (by kernel_rfl) (fun _ _ _ h => h) (Or.inl ⟨by rfl, ?_⟩) hHeld ?_
          rotate_left
          · (intro w hSw; (try dsimp only at hSw); go_simp; try with_reducible rfl)
          try go_frame
          refine wpAnyH_takeL (i := 10) (v := ?_) rfl (by kernel_rfl) (by kernel_rfl) (by kernel_rfl) (fun _ _ _ h => h) (Or.inl ⟨by rfl, ?_⟩) hHeld ?_
          rotate_left
          · (intro w hSw; (try dsimp only at hSw); go_simp; try with_reducible rfl)
          try go_frame
          refine wpAnyH_takeL (i := 11) (v := ?_) rfl (by kernel_rfl) (by kernel_rfl) (by kernel_rfl) (fun _ _ _ h => h) (Or.inl ⟨by rfl, ?_⟩) hHeld ?_
          rotate_left
          · (intro w hSw; (try dsimp only at hSw); go_simp; try with_reducible rfl)
          try go_frame
          refine wpAnyH_takeL (i := 12) (v := ?_) rfl (by kernel_rfl) (by kernel_rfl) (by kernel_rfl) (fun _ _ _ h => h) (Or.inl ⟨by rfl, ?_⟩) hHeld ?_
          rotate_left
          · (intro w hSw; (try dsimp only at hSw); go_simp; try with_reducible rfl)
          try go_frame
          refine wpAnyH_takeL (i := 13) (v := ?_) rfl (by kernel_rfl) (by kernel_rfl) (by kernel_rfl) (fun _ _ _ h => h) (Or.inl ⟨by rfl, ?_⟩) hHeld ?_
          rotate_left
          · (intro w hSw; (try dsimp only at hSw); go_simp; try with_reducible rfl)
          try go_frame
          refine wpAnyH_takeL (i := 14) (v := ?_) rfl (by kernel_rfl) (by kernel_rfl) (by kernel_rfl) (fun _ _ _ h => h) (Or.inl ⟨by rfl, ?_⟩) hHeld ?_
          rotate_left
          · (intro w hSw; (try dsimp only at hSw); go_simp; try with_reducible rfl)
          try go_frame
          refine wpAnyH_takeL (i := 15) (v := ?_) rfl (by kernel_rfl) (by kernel_rfl) (by kernel_rfl) (fun _ _ _ h => h) (Or.inl ⟨by rfl, ?_⟩) hHeld ?_
          rotate_left
          · (intro w hSw; (try dsimp only at hSw); go_simp; try with_reducible rfl)
          try go_frame
          refine wpAnyH_takeL (i := 16) (v := ?_) rfl (by kernel_rfl) (by kernel_rfl) (by kernel_rfl) (fun _ _ _ h => h) (Or.inl ⟨by rfl, ?_⟩) hHeld ?_
          rotate_left
          · (intro w hSw; (try dsimp only at hSw); go_simp; try with_reducible rfl)
          try go_frame
          refine wpAnyH_takeL (i := 17) (v := ?_) rfl (by kernel_rfl) (by kernel_rfl) (by kernel_rfl) (fun _ _ _ h => h) (Or.inl ⟨by rfl, ?_⟩) hHeld ?_
          rotate_left
          · (intro w hSw; (try dsimp only at hSw); go_simp; try with_reducible rfl)
          try go_frame
          refine wpAnyH_done (by kernel_rfl) ?_ _
          have KZ : Hid (Below w2.heap.size w2 wr.drew) := HBK.out.trans (k0.mono HBK.out.size)
          have v0 := cell_later k0 y0
          have v1 := cell_later (HBK.out.trans (k0.mono HBK.out.size)) x1
          have zv := World.block_lt_of_cell? _ _ v0
          simp only at zv
          obtain ⟨w6, hw6⟩ : ∃ w6, w6 = wr.drew := ⟨_, rfl⟩
          rw [← hw6] at KZ v0 v1 zv ⊢
          clear k0 HMK hHeld hb hw6 y0 zy g0 e0 zg hne hne' HBK
          have hkz : ¬ (k : Int) = 0 := by omega
          have hrm := E2.out.room
          have hkc : (k : Int) ≤ (c : Int) := by omega
          have hknI : (k : Int) ≤ (n : Int) := by omega
          go_wp2_with fail
          obtain ⟨a1, a2, a3⟩ := of_right (right_sub HRT.out (List.take_sublist k L)) (by simp [HLN.out]; omega) (by simp [HLN.out]; omega)
          obtain ⟨b1, b2, b3⟩ := of_right (right_sub HRT.out (List.drop_sublist k L)) (by simp [HLN.out]; omega) (by simp [HLN.out]; omega)
          obtain ⟨MA, hMA⟩ : ∃ MA, MA = ofM (L.take k) := ⟨_, rfl⟩
          obtain ⟨MB, hMB⟩ : ∃ MB, MB = ofM (L.drop k) := ⟨_, rfl⟩
          rw [← hMA] at a3
          rw [← hMB] at b3
          refine (implRunOf g k c (L.take k) w6 (ents_take (E2.out.keep KZ.out) (by omega))).mono ?_
          rintro e w7 ⟨aA, nA, cA, rfl, hOA, hb7⟩
          rw [a2] at hOA
          rw [a1, ← hMA]
          obtain ⟨XA, hXA⟩ : ∃ XA, XA = w7.heap.size := ⟨_, rfl⟩
          obtain ⟨W8, hW8⟩ : ∃ W8, W8 = w7.alloc (.cells #[.slice aA nA cA, .int .i64 MA] 26) := ⟨_, rfl⟩
          have k8 : Below w7.heap.size w7 W8 := by rw [hW8]; exact (Below.refl _ _).alloc (Nat.le_refl _) _
          have p0 : W8.cell? ⟨XA, 0, none⟩ = some (.slice aA nA cA) := by rw [hW8, hXA]; simp
          have p1 : W8.cell? ⟨XA, 1, none⟩ = some (.int .i64 MA) := by rw [hW8, hXA]; simp
          have EA : Hid (EntsAt W8 aA nA cA (L.take k)) := hOA.entsAt.keep k8
          have hnA : nA ≤ 13 := by have := hOA.len; simp [HLN.out] at this; omega
          have K8 : Hid (Below w2.heap.size w2 W8) := (KZ.out.trans (hb7.mono KZ.out.size)).trans (k8.mono (Nat.le_trans KZ.out.size hb7.size))
          have v0 := cell_later hb7 v0
          have zv := World.block_lt_of_cell? _ _ v0
          simp only at zv
          have A3 : Hid (runB (L.take k) MA = true) := a3
          have B3 : Hid (runB (L.drop k) MB = true) := b3
          have B1 : Hid (ofB (L.drop k) = true) := b1
          have B2 : Hid (ofL (L.drop k) = L.drop k) := b2
          have HMB : Hid (MB = ofM (L.drop k)) := hMB
          clear a1 a2 a3 b1 b2 b3 hMA hMB hOA hb7 k8 v1 KZ
          go_wp2_with fail
          rw [← hXA, ← hW8]
          clear hXA hW8
          refine (implRunOfX g (k * 5) (n - k) (c - k) (L.drop k) W8 (ents_dropO (E2.out.keep K8.out) (by omega))).mono ?_
          rintro e w9 ⟨aB, nB, cB, rfl, hOB, hb9⟩
          rw [B2.out] at hOB
          rw [B1.out, ← HMB.out]
          obtain ⟨XB, hXB⟩ : ∃ XB, XB = w9.heap.size := ⟨_, rfl⟩
          obtain ⟨WA, hWA⟩ : ∃ WA, WA = w9.alloc (.cells #[.slice aB nB cB, .int .i64 MB] 26) := ⟨_, rfl⟩
          have k10 : Below w9.heap.size w9 WA := by rw [hWA]; exact (Below.refl _ _).alloc (Nat.le_refl _) _
          have k810 : Below W8.heap.size W8 WA := hb9.trans (k10.mono hb9.size)
          have p0 := cell_later k810 p0
          have p1 := cell_later k810 p1
          have q0 : WA.cell? ⟨XB, 0, none⟩ = some (.slice aB nB cB) := by rw [hWA, hXB]; simp
          have q1 : WA.cell? ⟨XB, 1, none⟩ = some (.int .i64 MB) := by rw [hWA, hXB]; simp
          have EA : Hid (EntsAt WA aA nA cA (L.take k)) := EA.out.keep k810
          have EB : Hid (EntsAt WA aB nB cB (L.drop k)) := hOB.entsAt.keep k10
          have hnB : nB ≤ 13 := by have := hOB.len; simp [HLN.out] at this; omega
          have K10 : Hid (Below w2.heap.size w2 WA) := K8.out.trans (k810.mono K8.out.size)
          have F10 : Hid (EntsAt WA al nl cl F) := F2.out.keep K10.out
          have KX : Hid (Below w.heap.size w WA) := KA.out.trans (K10.out.mono KA.out.size)
          obtain ⟨FA, hFA⟩ : ∃ FA, FA = findL (L.take k) key seq := ⟨_, rfl⟩
          obtain ⟨FB, hFB⟩ : ∃ FB, FB = findL (L.drop k) key seq := ⟨_, rfl⟩
          have HAB : Hid (FA ++ FB = F) := by show FA ++ FB = F; rw [hFA, hFB, find_cut, HFL.out]
          have hla : FA.length ≤ 13 := by rw [hFA]; unfold findL; refine Nat.le_trans (List.length_filter_le _ _) ?_; simp [HLN.out]; omega
          have hlb : FB.length ≤ 13 := by rw [hFB]; unfold findL; refine Nat.le_trans (List.length_filter_le _ _) ?_; simp [HLN.out]; omega
          obtain ⟨BA, hBA⟩ : ∃ BA, BA = mayB (L.take k) MA key := ⟨_, rfl⟩
          obtain ⟨BB, hBB⟩ : ∃ BB, BB = mayB (L.drop k) MB key := ⟨_, rfl⟩
          have HNO : Hid (BA = false → BB = false → nl = 0) := by
            intro h1 h2
            rw [hBA] at h1
            rw [hBB] at h2
            have h3 := may_cut (seq := seq) A3.out B3.out h1 h2
            rw [← HFL.out] at h3
            have h4 := HFN.out
            rw [h3] at h4
            exact h4.symm
          have CA : Hid (∀ w', Below WA.heap.size WA w' → Calls Try.prog 19 #[.agg #[.slice aA nA cA, .int .i64 MA], .string key, .int .i64 seq] w' (FoundX FA w')) := by
            intro w' kk
            have h0 := implFindX aA nA cA (L.take k) MA key seq w' (EA.out.keep kk) (by omega) A3.out
            rw [found_yes A3.out, ← hFA] at h0
            exact h0
          have CB : Hid (∀ w', Below WA.heap.size WA w' → Calls Try.prog 19 #[.agg #[.slice aB nB cB, .int .i64 MB], .string key, .int .i64 seq] w' (FoundX FB w')) := by
            intro w' kk
            have h0 := implFindX aB nB cB (L.drop k) MB key seq w' (EB.out.keep kk) (by omega) B3.out
            rw [found_yes B3.out, ← hFB] at h0
            exact h0
          have CMA : Hid (∀ w', Below WA.heap.size WA w' → Calls Try.prog 16 #[.agg #[.slice aA nA cA, .int .i64 MA], .string key] w' fun e w'' => e = .returned (.bool BA) ∧ Below w'.heap.size w' w'') := by rw [hBA]; exact fun w' kk => implMay _ _ _ (L.take k) MA key w' (EA.out.keep kk) hkey
          have CMB : Hid (∀ w', Below WA.heap.size WA w' → Calls Try.prog 16 #[.agg #[.slice aB nB cB, .int .i64 MB], .string key] w' fun e w'' => e = .returned (.bool BB) ∧ Below w'.heap.size w' w'') := by rw [hBB]; exact fun w' kk => implMay _ _ _ (L.drop k) MB key w' (EB.out.keep kk) hkey
          have HEA : Hid (∀ e ∈ FA, EntW e) := fun e he => E2.out.ents e (List.mem_of_mem_take (by rw [hFA] at he; exact (List.mem_filter.1 he).1))
          have HEB : Hid (∀ e ∈ FB, EntW e) := fun e he => E2.out.ents e (List.mem_of_mem_drop (by rw [hFB] at he; exact (List.mem_filter.1 he).1))
          clear hFA hFB hBA hBB hOB hb9 k10 k810 K8 EA EB B1 B2 HMB A3 B3 K10 HFL F2 E2 HRT HR HFF CW K2 K5 KA KW
          go_wp2_with fail
          rw [← hXB, ← hWA]
          clear hXB hWA
          obtain ⟨i0, hi, hz0, hz1, hz2⟩ := info_parts Try.infoEnt
          have k0 : Below WA.heap.size WA WA.drew := (Below.refl _ WA).drew
          have HMK : Hid (∀ w', Below WA.heap.size WA w' → (w'.cell? ⟨XA, 0, none⟩ = some (.slice aA nA cA) ∧ w'.cell? ⟨XA, 1, none⟩ = some (.int .i64 MA) ∧ XA < w'.heap.size ∧ w'.cell? ⟨XB, 0, none⟩ = some (.slice aB nB cB) ∧ w'.cell? ⟨XB, 1, none⟩ = some (.int .i64 MB) ∧ XB < w'.heap.size)) := fun w' kk => ⟨cell_later kk p0, cell_later kk p1, World.block_lt_of_cell? _ _ (cell_later kk p0), cell_later kk q0, cell_later kk q1, World.block_lt_of_cell? _ _ (cell_later kk q0)⟩
          refine wp_region_held_drew (S := (fun w' => w'.cell? ⟨XA, 0, none⟩ = some (.slice aA nA cA) ∧ w'.cell? ⟨XA, 1, none⟩ = some (.int .i64 MA) ∧ XA < w'.heap.size ∧ w'.cell? ⟨XB, 0, none⟩ = some (.slice aB nB cB) ∧ w'.cell? ⟨XB, 1, none⟩ = some (.int .i64 MB) ∧ XB < w'.heap.size)) (by kernel_rfl) (HMK.out _ k0) (fun hHeld => ?_)
          generalize WA.drew = wd at k0 hHeld ⊢
          refine wpAnyH_takeL (i := 1) (v := ?_) rfl (by kernel_rfl) (by kernel_rfl) (by kernel_rfl) (fun _ _ _ h => h) (Or.inl ⟨by rfl, ?_⟩) hHeld ?_
          rotate_left
          · (intro w hSw; (try dsimp only at hSw); go_simp; try with_reducible rfl)
          try go_frame
          refine wpAnyH_takeL (i := 2) (v := ?_) rfl (by kernel_rfl) (by kernel_rfl) (by kernel_rfl) (fun _ _ _ h => h) (Or.inl ⟨by rfl, ?_⟩) hHeld ?_
          rotate_left
          · (intro w hSw; (try dsimp only at hSw); go_simp; try with_reducible rfl)
          try go_frame
          refine wpAnyH_takeL (i := 3) (v := ?_) rfl (by kernel_rfl) (by kernel_rfl) (by kernel_rfl) (fun _ _ _ h => h) (Or.inl ⟨by rfl, ?_⟩) hHeld ?_
          rotate_left
          · (intro w hSw; (try dsimp only at hSw); go_simp; try with_reducible rfl)
          try go_frame
          refine wpAnyH_takeL (i := 6) (v := ?_) rfl (by kernel_rfl) (by kernel_rfl) (by kernel_rfl) (fun _ _ _ h => h) (Or.inl ⟨by rfl, ?_⟩) hHeld ?_
          rotate_left
          · (intro w hSw; (try dsimp only at hSw); go_simp; try with_reducible rfl)
          try go_frame
          refine wpAnyH_takeL (i := 7) (v := ?_) rfl (by kernel_rfl) (by kernel_rfl) (by kernel_rfl) (fun _ _ _ h => h) (Or.inl ⟨by rfl, ?_⟩) hHeld ?_
          rotate_left
          · (intro w hSw; (try dsimp only at hSw); go_simp; try with_reducible rfl)
          try go_frame
          refine wpAnyH_takeL (i := 8) (v := ?_) rfl (by kernel_rfl) (by kernel_rfl) (by kernel_rfl) (fun _ _ _ h => h) (Or.inl ⟨by rfl, ?_⟩) hHeld ?_
          rotate_left
          · (intro w hSw; (try dsimp only at hSw); go_simp; try with_reducible rfl)
          try go_frame
          refine wpAnyH_ready (rs := [0, 4]) (by kernel_rfl) (by simp) ?_
          refine consL rfl (fun K hK => ?_) (consL rfl (fun K hK => ?_) AllReadyH.nil)
          · go_simp
            have k0a := k0.alloc k0.size (.cells #[] 31)
            have rA : OwnE (wd.alloc (.cells #[] 31)) WA.heap.size wd.heap.size 0 0 [] := own_empty wd _ k0.size
            refine hK.out _ _ (HMK.out _ k0a) (fun hHeld => ?_)
            clear hK K
            try go_frame
            refine wpAnyH_ready (rs := [4]) (by kernel_rfl) (by simp) ?_
            refine consL rfl (fun K hK => ?_) AllReadyH.nil
            go_simp
            refine (CA.out _ k0a).mono ?_
            rintro e wF ⟨gF, nF, cF, rfl, hOF, bF⟩
            have kF : Below WA.heap.size WA wF := k0a.trans (bF.mono k0a.size)
            have rF : OwnE wF WA.heap.size gF nF cF FA := hOF.mono k0a.size
            have lF : nF ≤ 13 := by have := rF.len; omega
            have rA := rA.below bF
            clear hOF bF
            go_wp2_with fail
            refine hK.out _ _ (HMK.out _ kF) (fun hHeld => ?_)
            clear hK K
            try go_frame
            refine wpAnyH_ready (rs := [5]) (by kernel_rfl) (by simp) ?_
            refine consL rfl (fun K hK => ?_) AllReadyH.nil
            refine step_append_own rfl (.tmp 95) (.tmp 99) 23 rfl WA.heap.size 31 i0 _ 5 56 Try.underlying23 hi hz0 hz1 hz2 rfl (Nat.succ_pos 4) _ _ _ rfl rA.owns ⟨gF, 0, none⟩ nF cF (flatE FA) rfl ?e0 ?e1 (flatE_one _) ?e3 ?e4 ?e5 ?_
            case e0 => rw [flatE_len, rF.len]
            case e1 => exact ents_news rF.entsAt
            case e3 => unfold maxLen; omega
            case e4 => omega
            case e5 => exact kF.size
            intro v' wB hown hgrow hnil
            rw [Nat.zero_add] at hown
            obtain ⟨gB, cB', rfl⟩ := row_form hown (fun e => by have := (hnil.1 e).1; cases this)
            have rB : OwnE wB WA.heap.size gB nF cB' FA := ⟨by simpa [flatE] using hown, rF.len, HEA.out⟩
            have kB : Below WA.heap.size WA wB := kF.grown hgrow kF.size (fun j e => by rw [own_G e]; exact rA.lt.1)
            clear hown hgrow hnil
            refine hK.out _ _ (HMK.out _ kB) (fun hHeld => ?_)
            clear hK K
            try go_frame
            refine wpAnyH_ready (rs := [9]) (by kernel_rfl) (by simp) ?_
            refine consL rfl (fun K hK => ?_) AllReadyH.nil
            go_simp
            refine (CB.out _ kB).mono ?_
            rintro e wG ⟨gG, nG, cG, rfl, hOG, bG⟩
            have kG : Below WA.heap.size WA wG := kB.trans (bG.mono kB.size)
            have rG : OwnE wG WA.heap.size gG nG cG FB := hOG.mono kB.size
            have lG : nG ≤ 13 := by have := rG.len; omega
            have rB := rB.below bG
            clear hOG bG
            go_wp2_with fail
            refine hK.out _ _ (HMK.out _ kG) (fun hHeld => ?_)
            clear hK K
            try go_frame
            refine wpAnyH_ready (rs := [10]) (by kernel_rfl) (by simp) ?_
            refine consL rfl (fun K hK => ?_) AllReadyH.nil
            refine step_append_own rfl (.tmp 100) (.tmp 104) 23 rfl WA.heap.size 31 i0 _ 5 56 Try.underlying23 hi hz0 hz1 hz2 rfl (Nat.succ_pos 4) _ _ _ rfl rB.owns ⟨gG, 0, none⟩ nG cG (flatE FB) rfl ?e0 ?e1 (flatE_one _) ?e3 ?e4 ?e5 ?_
            case e0 => rw [flatE_len, rG.len]
            case e1 => exact ents_news rG.entsAt
            case e3 => unfold maxLen; omega
            case e4 => omega
            case e5 => exact kG.size
            intro v' wC hown hgrow hnil
            obtain ⟨gC, cC, rfl⟩ := row_form hown (fun e => by have := (hnil.1 e).1; cases this)
            have rC : OwnE wC WA.heap.size gC (nF + nG) cC (FA ++ FB) := ⟨by rw [flatE_append]; exact hown, by rw [List.length_append, rB.len, rG.len], fun e he => by rcases List.mem_append.1 he with h | h; exact HEA.out e h; exact HEB.out e h⟩
            have kC : Below WA.heap.size WA wC := kG.grown hgrow kG.size (fun j e => by rw [own_G e]; exact rB.lt.1)
            clear hown hgrow hnil
            refine hK.out _ _ (HMK.out _ kC) (fun hHeld => ?_)
            clear hK K
            try go_frame
            refine wpAnyH_takeL (i := 11) (v := ?_) rfl (by kernel_rfl) (by kernel_rfl) (by kernel_rfl) (fun _ _ _ h => h) (Or.inl ⟨by rfl, ?_⟩) hHeld ?_
            rotate_left
            · (intro w hSw; (try dsimp only at hSw); go_simp; try with_reducible rfl)
            try go_frame
            refine wpAnyH_done (by kernel_rfl) ?_ _
            rw [HAB.out] at rC
            have EC : Hid (EntsAt wC (some ⟨gC, 0, none⟩) (nF + nG) cC F) := rC.entsAt
            have KC : Hid (Below WA.heap.size WA wC) := kC
            have FC : Hid (EntsAt wC al nl cl F) := F10.out.keep kC
            have p0 := cell_later kC p0
            have p1 := cell_later kC p1
            have q0 := cell_later kC q0
            have q1 := cell_later kC q1
            clear hHeld rC kC k0 HMK CA CB
            go_wp2_with fail
            have CWW := wpEnts_any (some ⟨gC, 0, none⟩) al (nF + nG) cC nl cl F F wC EC.out FC.out
            rw [decide_eq_true rfl] at CWW
            refine CWW.mono ?_
            rintro e u1 ⟨rfl, hu1⟩
            have U1 : Hid (Below WA.heap.size WA u1) := KC.out.trans (hu1.mono KC.out.size)
            have p0 := cell_later hu1 p0
            have p1 := cell_later hu1 p1
            have q0 := cell_later hu1 q0
            have q1 := cell_later hu1 q1
            have zp := World.block_lt_of_cell? _ _ p0
            simp only at zp
            clear hu1 CWW KC FC EC
            go_wp2_with fail
            refine (CMA.out _ U1.out).mono ?_
            rintro e u2 ⟨rfl, hu2⟩
            have U2 : Hid (Below WA.heap.size WA u2) := U1.out.trans (hu2.mono U1.out.size)
            have q0 := cell_later hu2 q0
            have q1 := cell_later hu2 q1
            have zq := World.block_lt_of_cell? _ _ q0
            simp only at zq
            clear hu2 U1 p0 p1 zp
            cases hA : BA with
            | true =>
              go_wp2
              go_ret
              exact ⟨rfl, KX.out.trans (U2.out.mono KX.out.size)⟩
            | false =>
              have HA : Hid (BA = false) := hA
              clear hA
              go_wp2_with fail
              refine (CMB.out _ U2.out).mono ?_
              rintro e u3 ⟨rfl, hu3⟩
              have U3 : Hid (Below WA.heap.size WA u3) := U2.out.trans (hu3.mono U2.out.size)
              clear hu3 U2 q0 q1 zq
              cases hB2 : BB with
              | true =>
                go_wp2
                go_ret
                exact ⟨rfl, KX.out.trans (U3.out.mono KX.out.size)⟩
              | false =>
                have hnl := HNO.out HA.out hB2
                subst hnl
                go_wp2
                go_ret
                exact ⟨rfl, KX.out.trans (U3.out.mono KX.out.size)⟩
          · go_simp
            refine (CA.out _ k0).mono ?_
            rintro e wF ⟨gF, nF, cF, rfl, hOF, bF⟩
            have kF : Below WA.heap.size WA wF := k0.trans (bF.mono k0.size)
            have rF : OwnE wF WA.heap.size gF nF cF FA := hOF.mono k0.size
            have lF : nF ≤ 13 := by have := rF.len; omega
            clear hOF bF
            go_wp2_with fail
            refine hK.out _ _ (HMK.out _ kF) (fun hHeld => ?_)
            clear hK K
            try go_frame
            refine wpAnyH_ready (rs := [0]) (by kernel_rfl) (by simp) ?_
            refine consL rfl (fun K hK => ?_) AllReadyH.nil
            go_simp
            have kFa := kF.alloc kF.size (.cells #[] 31)
            have rA : OwnE (wF.alloc (.cells #[] 31)) WA.heap.size wF.heap.size 0 0 [] := own_empty wF _ kF.size
            have rF0 := rF.lt.2
            have rF := rF.below ((Below.refl wF.heap.size wF).alloc (Nat.le_refl _) (.cells #[] 31))
            refine hK.out _ _ (HMK.out _ kFa) (fun hHeld => ?_)
            clear hK K
            try go_frame
            refine wpAnyH_ready (rs := [5]) (by kernel_rfl) (by simp) ?_
            refine consL rfl (fun K hK => ?_) AllReadyH.nil
            refine step_append_own rfl (.tmp 95) (.tmp 99) 23 rfl WA.heap.size 31 i0 _ 5 56 Try.underlying23 hi hz0 hz1 hz2 rfl (Nat.succ_pos 4) _ _ _ rfl rA.owns ⟨gF, 0, none⟩ nF cF (flatE FA) rfl ?e0 ?e1 (flatE_one _) ?e3 ?e4 ?e5 ?_
            case e0 => rw [flatE_len, rF.len]
            case e1 => exact ents_news rF.entsAt
            case e3 => unfold maxLen; omega
            case e4 => omega
            case e5 => exact kFa.size
            intro v' wB hown hgrow hnil
            rw [Nat.zero_add] at hown
            obtain ⟨gB, cB', rfl⟩ := row_form hown (fun e => by have := (hnil.1 e).1; cases this)
            have rB : OwnE wB WA.heap.size gB nF cB' FA := ⟨by simpa [flatE] using hown, rF.len, HEA.out⟩
            have kB : Below WA.heap.size WA wB := kFa.grown hgrow kFa.size (fun j e => by rw [own_G e]; exact rA.lt.1)
            clear hown hgrow hnil
            refine hK.out _ _ (HMK.out _ kB) (fun hHeld => ?_)
            clear hK K
            try go_frame
            refine wpAnyH_ready (rs := [9]) (by kernel_rfl) (by simp) ?_
            refine consL rfl (fun K hK => ?_) AllReadyH.nil
            go_simp
            refine (CB.out _ kB).mono ?_
            rintro e wG ⟨gG, nG, cG, rfl, hOG, bG⟩
            have kG : Below WA.heap.size WA wG := kB.trans (bG.mono kB.size)
            have rG : OwnE wG WA.heap.size gG nG cG FB := hOG.mono kB.size
            have lG : nG ≤ 13 := by have := rG.len; omega
            have rB := rB.below bG
            clear hOG bG
            go_wp2_with fail
            refine hK.out _ _ (HMK.out _ kG) (fun hHeld => ?_)
            clear hK K
            try go_frame
            refine wpAnyH_ready (rs := [10]) (by kernel_rfl) (by simp) ?_
            refine consL rfl (fun K hK => ?_) AllReadyH.nil
            refine step_append_own rfl (.tmp 100) (.tmp 104) 23 rfl WA.heap.size 31 i0 _ 5 56 Try.underlying23 hi hz0 hz1 hz2 rfl (Nat.succ_pos 4) _ _ _ rfl rB.owns ⟨gG, 0, none⟩ nG cG (flatE FB) rfl ?e0 ?e1 (flatE_one _) ?e3 ?e4 ?e5 ?_
            case e0 => rw [flatE_len, rG.len]
            case e1 => exact ents_news rG.entsAt
            case e3 => unfold maxLen; omega
            case e4 => omega
            case e5 => exact kG.size
            intro v' wC hown hgrow hnil
            obtain ⟨gC, cC, rfl⟩ := row_form hown (fun e => by have := (hnil.1 e).1; cases this)
            have rC : OwnE wC WA.heap.size gC (nF + nG) cC (FA ++ FB) := ⟨by rw [flatE_append]; exact hown, by rw [List.length_append, rB.len, rG.len], fun e he => by rcases List.mem_append.1 he with h | h; exact HEA.out e h; exact HEB.out e h⟩
            have kC : Below WA.heap.size WA wC := kG.grown hgrow kG.size (fun j e => by rw [own_G e]; exact rB.lt.1)
            clear hown hgrow hnil
            refine hK.out _ _ (HMK.out _ kC) (fun hHeld => ?_)
            clear hK K
            try go_frame
            refine wpAnyH_takeL (i := 11) (v := ?_) rfl (by kernel_rfl) (by kernel_rfl) (by kernel_rfl) (fun _ _ _ h => h) (Or.inl ⟨by rfl, ?_⟩) hHeld ?_
            rotate_left
            · (intro w hSw; (try dsimp only at hSw); go_simp; try with_reducible rfl)
            try go_frame
            refine wpAnyH_done (by kernel_rfl) ?_ _
            rw [HAB.out] at rC
            have EC : Hid (EntsAt wC (some ⟨gC, 0, none⟩) (nF + nG) cC F) := rC.entsAt
            have KC : Hid (Below WA.heap.size WA wC) := kC
            have FC : Hid (EntsAt wC al nl cl F) := F10.out.keep kC
            have p0 := cell_later kC p0
            have p1 := cell_later kC p1
            have q0 := cell_later kC q0
            have q1 := cell_later kC q1
            clear hHeld rC kC k0 HMK CA CB
            go_wp2_with fail
            have CWW := wpEnts_any (some ⟨gC, 0, none⟩) al (nF + nG) cC nl cl F F wC EC.out FC.out
            rw [decide_eq_true rfl] at CWW
            refine CWW.mono ?_
            rintro e u1 ⟨rfl, hu1⟩
            have U1 : Hid (Below WA.heap.size WA u1) := KC.out.trans (hu1.mono KC.out.size)
            have p0 := cell_later hu1 p0
            have p1 := cell_later hu1 p1
            have q0 := cell_later hu1 q0
            have q1 := cell_later hu1 q1
            have zp := World.block_lt_of_cell? _ _ p0
            simp only at zp
            clear hu1 CWW KC FC EC
            go_wp2_with fail
            refine (CMA.out _ U1.out).mono ?_
            rintro e u2 ⟨rfl, hu2⟩
            have U2 : Hid (Below WA.heap.size WA u2) := U1.out.trans (hu2.mono U1.out.size)
            have q0 := cell_later hu2 q0
            have q1 := cell_later hu2 q1
            have zq := World.block_lt_of_cell? _ _ q0
            simp only at zq
            clear hu2 U1 p0 p1 zp
            cases hA : BA with
            | true =>
              go_wp2
              go_ret
              exact ⟨rfl, KX.out.trans (U2.out.mono KX.out.size)⟩
            | false =>
              have HA : Hid (BA = false) := hA
              clear hA
              go_wp2_with fail
              refine (CMB.out _ U2.out).mono ?_
              rintro e u3 ⟨rfl, hu3⟩
              have U3 : Hid (Below WA.heap.size WA u3) := U2.out.trans (hu3.mono U2.out.size)
              clear hu3 U2 q0 q1 zq
              cases hB2 : BB with
              | true =>
                go_wp2
                go_ret
                exact ⟨rfl, KX.out.trans (U3.out.mono KX.out.size)⟩
              | false =>
                have hnl := HNO.out HA.out hB2
                subst hnl
                go_wp2
                go_ret
                exact ⟨rfl, KX.out.trans (U3.out.mono KX.out.size)⟩
end Go.Proofs.Ytkhnknpacdmikaa
