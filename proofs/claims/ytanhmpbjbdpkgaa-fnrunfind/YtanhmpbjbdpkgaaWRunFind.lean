/-
  The walk of the law FnRunFind: it answers true at all bytes: what is found of a key are its entries up to that time, the newest first, and they tell what it has.
-/
import Derived.Test.YtanhmpbjbdpkgaaCellAI
import Derived.Test.YtanhmpbjbdpkgaaDrawAll
import Derived.Test.YtanhmpbjbdpkgaaDrawFind
import Derived.Test.YtanhmpbjbdpkgaaFindO
import Derived.Test.YtanhmpbjbdpkgaaWpEnts
namespace Go.Proofs.Ytanhmpbjbdpkgaa
open Go.RowKit

attribute [local go_sem] Oper.semAt_some

theorem less_time {k : ByteArray} {qa qb : Int} (h : lessB k qa k qb = true) : qb < qa := by
  rcases lessB_true h with h1 | ⟨_, h2⟩
  · rw [less_keys h] at h1; cases h1
  · exact h2
theorem find_desc {L : List EntD} (h : rightB L = true) (key : ByteArray) (seq : Int) : (findL L key seq).Pairwise (fun a b => b.2.1 < a.2.1) := by
  have hp : L.Pairwise (fun a b => lessB a.1 a.2.1 b.1 b.2.1 = true) := by
    rw [List.pairwise_iff_getElem]
    intro i j hi hj hij
    exact right_less h hij (List.getElem?_eq_getElem hi) (List.getElem?_eq_getElem hj)
  have hf : (findL L key seq).Pairwise (fun a b => lessB a.1 a.2.1 b.1 b.2.1 = true) := List.Pairwise.filter _ hp
  refine hf.imp_of_mem ?_
  intro a b ha hb hl
  rw [(find_all ha).1, (find_all hb).1] at hl
  exact less_time hl
theorem find_grow (L : List EntD) (key : ByteArray) (seq : Int) : (findL L key seq).length ≤ (findL L key (seq + 1)).length := by
  have : findL L key seq = (findL L key (seq + 1)).filter (fun e => decide (e.2.1 ≤ seq)) := by
    unfold findL
    rw [List.filter_filter]
    congr 1
    funext e
    by_cases h1 : e.1 = key <;> by_cases h2 : e.2.1 ≤ seq <;> simp [h1, h2]
    omega
  rw [this]
  exact List.length_filter_le _ _

set_option maxRecDepth 100000 in
set_option maxHeartbeats 8000000 in
theorem walkFnRunFind (a : Option Addr) (len cap : Nat) (w : World) (h : BytesAt w a len cap) :
    Calls Try.prog 5 #[.slice a len cap] w fun e w' => e = .returned (.bool true) ∧ Below w.heap.size w w' := by
  have H : Hid (BytesAt w a len cap) := h
  have hm := Nat.le_trans h.1 h.2.1
  unfold maxLen at hm
  clear h
  by_cases hbig : 1048576 < len
  · go_enter Try.func5, Try.ntmps5
    go_wp2
    go_ret
    exact ⟨rfl, Below.refl _ _⟩
  go_enter Try.func5, Try.ntmps5
  go_wp2_with fail
  refine (drawFind_any a len cap w H.out).mono ?_
  rintro e w1 ⟨g, n, c, m, L, key, seq, rfl, hO, hn, hF, hM, hK, hsq, hb1⟩
  have hkey : key.size ≤ maxLen := by have := hK.1; unfold maxLen; omega
  obtain ⟨X, hX⟩ : ∃ X, X = w1.heap.size := ⟨_, rfl⟩
  obtain ⟨W, hW⟩ : ∃ W, W = w1.alloc (.cells #[.slice (some ⟨g, 0, none⟩) n c, .int .i64 m] 41) := ⟨_, rfl⟩
  have kW : Below w1.heap.size w1 W := by rw [hW]; exact (Below.refl _ _).alloc (Nat.le_refl _) _
  have x0 : W.cell? ⟨X, 0, none⟩ = some (.slice (some ⟨g, 0, none⟩) n c) := by rw [hW, hX]; simp
  have x1 : W.cell? ⟨X, 1, none⟩ = some (.int .i64 m) := by rw [hW, hX]; simp
  have E : Hid (EntsAt W (some ⟨g, 0, none⟩) n c L) := hO.entsAt.keep kW
  have HLN : Hid (L.length = n) := hO.len
  have KW : Hid (Below w.heap.size w W) := hb1.trans (kW.mono hb1.size)
  obtain ⟨F, hFF⟩ : ∃ F, F = foundL L m key seq := ⟨_, rfl⟩
  have HFF : Hid (F = foundL L m key seq) := hFF
  obtain ⟨O, hOk⟩ : ∃ O, O = runB L m := ⟨_, rfl⟩
  have HOK : Hid (O = runB L m) := hOk
  have CF : Hid (∀ w', Below W.heap.size W w' → Calls Try.prog 24 #[.agg #[.slice (some ⟨g, 0, none⟩) n c, .int .i64 m], .string key, .int .i64 seq] w' (FoundV F w')) := by rw [hFF]; exact fun w' k => implFind _ _ _ L m key seq w' (E.out.keep k) (by omega)
  have CSF : Hid (∀ w', Below W.heap.size W w' → Calls Try.prog 26 #[.agg #[.slice (some ⟨g, 0, none⟩) n c, .int .i64 m], .string key, .int .i64 seq] w' (FoundR F w')) := by rw [hFF]; exact fun w' k => specFind _ _ _ L m key seq w' (E.out.keep k) (by omega)
  have COS : Hid (∀ w', Below W.heap.size W w' → Calls Try.prog 27 #[.agg #[.slice (some ⟨g, 0, none⟩) n c, .int .i64 m]] w' fun e w'' => e = .returned (.bool O) ∧ Below w'.heap.size w' w'') := by rw [hOk]; exact fun w' k => specRunOk _ _ _ L m w' (E.out.keep k)
  have HTX : Hid (∀ e ∈ L, e.2.2.2.1.size ≤ 281474976710656) := fun e he => by have := (hF e he).2.1.1; omega
  clear hFF hOk hO hb1 hF hM hK kW
  go_wp2_with fail
  rw [← hW, ← hX]
  clear hW hX
  refine (CF.out _ (Below.refl _ _)).mono ?_
  rintro e w2 hfv
  obtain ⟨al, nl, cl, rfl, hOF, hb2⟩ := foundV_own hfv
  have F2 : Hid (EntsAt w2 al nl cl F) := hOF.entsAt
  have HFN : Hid (F.length = nl) := hOF.len
  have K2 : Hid (Below W.heap.size W w2) := hb2
  have x0 := cell_later hb2 x0
  have x1 := cell_later hb2 x1
  have zx := World.block_lt_of_cell? _ _ x0
  simp only at zx
  have CW : Hid (∀ w' g' n' c', Below w2.heap.size w2 w' → EntsAt w' (some ⟨g', 0, none⟩) n' c' F → Calls Try.prog 25 #[.slice al nl cl, .slice (some ⟨g', 0, none⟩) n' c'] w' fun e w'' => e = .returned (.bool true) ∧ Below w'.heap.size w' w'') := by
    intro w' g' n' c' k hE'
    have := wpEnts_any al (some ⟨g', 0, none⟩) nl cl n' c' F F w' (F2.out.keep k) hE'
    rw [decide_eq_true rfl] at this
    exact this
  clear hfv hOF hb2 
  go_wp2_with fail
  refine (CSF.out _ K2.out).mono ?_
  rintro e w3 ⟨g3, n3, c3, rfl, hO3, hb3⟩
  have E3 : Hid (EntsAt w3 (some ⟨g3, 0, none⟩) n3 c3 F) := hO3.entsAt
  have K3 : Hid (Below w2.heap.size w2 w3) := hb3
  clear hO3 hb3
  go_wp2_with fail
  refine (CW.out w3 g3 n3 c3 K3.out E3.out).mono ?_
  rintro e w4 ⟨rfl, hb4⟩
  have K4 : Hid (Below w2.heap.size w2 w4) := K3.out.trans (hb4.mono K3.out.size)
  have v0 := cell_later K4.out x0
  have v1 := cell_later K4.out x1
  have zv := World.block_lt_of_cell? _ _ v0
  simp only at zv
  clear hb4 K3 E3
  go_wp2_with fail
  refine (COS.out _ (K2.out.trans (K4.out.mono K2.out.size))).mono ?_
  rintro e w5 ⟨rfl, hb5⟩
  have K5 : Hid (Below w2.heap.size w2 w5) := K4.out.trans (hb5.mono K4.out.size)
  have v0 := cell_later hb5 v0
  have v1 := cell_later hb5 v1
  have zv := World.block_lt_of_cell? _ _ v0
  simp only at zv
  clear hb5 K4
  have KA : Hid (Below w.heap.size w w2) := KW.out.trans (K2.out.mono KW.out.size)
  cases hO : O with
  | false =>
    subst hO
    have hl0 : nl = 0 := by
      have h1 := HFN.out
      rw [HFF.out, found_no HOK.out.symm] at h1
      exact h1.symm
    subst hl0
    go_wp2
    go_ret
    exact ⟨rfl, KA.out.trans (K5.out.mono KA.out.size)⟩
  | true =>
    subst hO
    have HR : Hid (runB L m = true) := HOK.out.symm
    have HRT : Hid (rightB L = true) := (runB_parts HR.out).2.2.1
    have E2 : Hid (EntsAt w2 (some ⟨g, 0, none⟩) n c L) := E.out.keep K2.out
    have HFL : Hid (F = findL L key seq) := by rw [HFF.out]; exact found_yes HR.out
    have HDE : Hid (F.Pairwise (fun a b => b.2.1 < a.2.1)) := by rw [HFL.out]; exact find_desc HRT.out key seq
    have hnl : nl ≤ n := by have := find_len L key seq; rw [← HFL.out, HFN.out, HLN.out] at this; exact this
    have hlr := F2.out.room
    have hlb := F2.out.big
    unfold maxLen at hlb
    have hs1 : IntKind.i64.wrap (seq + 1) = seq + 1 := by rw [IntWalk.i64_left]; unfold wrap64; omega
    go_wp2
    go_loopw [7] (fun kv wr => ∃ k : Nat, k ≤ nl ∧ kv = .int .i64 k ∧ Below w2.heap.size w2 wr) (fun kv _ => nl - (intOf kv).toNat)
    case atStart => exact ⟨0, Nat.zero_le _, rfl, K5.out⟩
    case round =>
    obtain ⟨k, hk, rfl, hb⟩ := hrel
    have HBK : Hid (Below w2.heap.size w2 wr) := hb
    clear v0 v1 zv
    by_cases hlt : k < nl
    · obtain ⟨b, off, rfl, hbb⟩ := F2.out.form (by omega)
      obtain ⟨s, q, d, t, nn, hg, _, g0, g1, g2, g3, g4⟩ := F2.out.ent hb hbb k hlt
      have hmem : (s, q, d, t, nn) ∈ findL L key seq := by rw [← HFL.out]; exact List.mem_of_getElem? hg
      obtain ⟨hsk, hqs⟩ := find_all hmem
      simp only at hsk hqs
      subst hsk
      have hqn : ¬ seq < q := by omega
      have hqd : decide (seq < q) = false := decide_eq_false hqn
      have k0 : Below wr.heap.size wr wr.drew := (Below.refl _ wr).drew
      have hbr : b < wr.heap.size := Nat.lt_of_lt_of_le hbb hb.size
      by_cases hk0 : k = 0
      · subst hk0
        simp only [Nat.zero_mul, Nat.add_zero] at g0 g1
        have HMK : Hid (∀ w', Below wr.heap.size wr w' → (w'.cell? ⟨b, off, none⟩ = some (.string s) ∧ w'.cell? ⟨b, off + 1, none⟩ = some (.int .i64 q) ∧ b < w'.heap.size)) := fun w' kk => ⟨cell_later kk g0, cell_later kk g1, Nat.lt_of_lt_of_le hbr kk.size⟩
        clear hg hmem hb g0 g1 g2 g3 g4
        go_wp2_with fail
        refine wp_region_held_drew (S := (fun w' => w'.cell? ⟨b, off, none⟩ = some (.string s) ∧ w'.cell? ⟨b, off + 1, none⟩ = some (.int .i64 q) ∧ b < w'.heap.size)) (by kernel_rfl) (HMK.out _ k0) (fun hHeld => ?_)
        refine wpAnyH_takeL (i := 0) (v := ?_) rfl (by kernel_rfl) (by kernel_rfl) (by kernel_rfl) (fun _ _ _ h => h) (Or.inl ⟨by rfl, ?_⟩) hHeld ?_
        rotate_left
        · (intro w hSw; (try dsimp only at hSw); go_simp; try with_reducible rfl)
        try go_frame
        refine wpAnyH_takeL (i := 1) (v := ?_) rfl (by kernel_rfl) (by kernel_rfl) (by kernel_rfl) (fun _ _ _ h => h) (Or.inl ⟨by rfl, ?_⟩) hHeld ?_
        rotate_left
        · (intro w hSw; (try dsimp only at hSw); go_simp; try with_reducible rfl)
        try go_frame
        refine wpAnyH_takeL (i := 2) (v := ?_) rfl (by kernel_rfl) (by kernel_rfl) (by kernel_rfl) (fun _ _ _ h => h) (Or.inl ⟨by rfl, ?_⟩) hHeld ?_
        rotate_left
        · (intro w hSw; (try dsimp only at hSw); go_simp; try with_reducible rfl)
        try go_frame
        refine wpAnyH_takeL (i := 3) (v := ?_) rfl (by kernel_rfl) (by kernel_rfl) (by kernel_rfl) (fun _ _ _ h => h) (Or.inl ⟨by rfl, ?_⟩) hHeld ?_
        rotate_left
        · (intro w hSw; (try dsimp only at hSw); go_simp; try with_reducible rfl)
        try go_frame
        refine wpAnyH_takeL (i := 4) (v := ?_) rfl (by kernel_rfl) (by kernel_rfl) (by kernel_rfl) (fun _ _ _ h => h) (Or.inl ⟨by rfl, ?_⟩) hHeld ?_
        rotate_left
        · (intro w hSw; (try dsimp only at hSw); go_simp; try with_reducible rfl)
        try go_frame
        refine wpAnyH_takeL (i := 5) (v := ?_) rfl (by kernel_rfl) (by kernel_rfl) (by kernel_rfl) (fun _ _ _ h => h) (Or.inl ⟨by rfl, ?_⟩) hHeld ?_
        rotate_left
        · (intro w hSw; (try dsimp only at hSw); go_simp; try with_reducible rfl)
        try go_frame
        refine wpAnyH_takeL (i := 6) (v := ?_) rfl (by kernel_rfl) (by kernel_rfl) (by kernel_rfl) (fun _ _ _ h => h) (Or.inl ⟨by rfl, ?_⟩) hHeld ?_
        rotate_left
        · (intro w hSw; (try dsimp only at hSw); go_simp; try with_reducible rfl)
        try go_frame
        refine wpAnyH_takeL (i := 7) (v := ?_) rfl (by kernel_rfl) (by kernel_rfl) (by kernel_rfl) (fun _ _ _ h => h) (Or.inl ⟨by rfl, ?_⟩) hHeld ?_
        rotate_left
        · (intro w hSw; (try dsimp only at hSw); go_simp; try with_reducible rfl)
        try go_frame
        refine wpAnyH_takeL (i := 8) (v := ?_) rfl (by kernel_rfl) (by kernel_rfl) (by kernel_rfl) (fun _ _ _ h => h) (Or.inl ⟨by rfl, ?_⟩) hHeld ?_
        rotate_left
        · (intro w hSw; (try dsimp only at hSw); go_simp; try with_reducible rfl)
        try go_frame
        refine wpAnyH_takeL (i := 9) (v := ?_) rfl (by kernel_rfl) (by kernel_rfl) (by kernel_rfl) (fun _ _ _ h => h) (Or.inl ⟨by rfl, ?_⟩) hHeld ?_
        rotate_left
        · (intro w hSw; (try dsimp only at hSw); go_simp; try with_reducible rfl)
        try go_frame
        refine wpAnyH_takeL (i := 10) (v := ?_) rfl (by kernel_rfl) (by kernel_rfl) (by kernel_rfl) (fun _ _ _ h => h) (Or.inl ⟨by rfl, ?_⟩) hHeld ?_
        rotate_left
        · (intro w hSw; (try dsimp only at hSw); go_simp; try with_reducible rfl)
        try go_frame
        refine wpAnyH_takeL (i := 11) (v := ?_) rfl (by kernel_rfl) (by kernel_rfl) (by kernel_rfl) (fun _ _ _ h => h) (Or.inl ⟨by rfl, ?_⟩) hHeld ?_
        rotate_left
        · (intro w hSw; (try dsimp only at hSw); go_simp; try with_reducible rfl)
        try go_frame
        refine wpAnyH_takeL (i := 12) (v := ?_) rfl (by kernel_rfl) (by kernel_rfl) (by kernel_rfl) (fun _ _ _ h => h) (Or.inl ⟨by rfl, ?_⟩) hHeld ?_
        rotate_left
        · (intro w hSw; (try dsimp only at hSw); go_simp; try with_reducible rfl)
        try go_frame
        refine wpAnyH_takeL (i := 13) (v := ?_) rfl (by kernel_rfl) (by kernel_rfl) (by kernel_rfl) (fun _ _ _ h => h) (Or.inl ⟨by rfl, ?_⟩) hHeld ?_
        rotate_left
        · (intro w hSw; (try dsimp only at hSw); go_simp; try with_reducible rfl)
        try go_frame
        refine wpAnyH_takeL (i := 14) (v := ?_) rfl (by kernel_rfl) (by kernel_rfl) (by kernel_rfl) (fun _ _ _ h => h) (Or.inl ⟨by rfl, ?_⟩) hHeld ?_
        rotate_left
        · (intro w hSw; (try dsimp only at hSw); go_simp; try with_reducible rfl)
        try go_frame
        refine wpAnyH_takeL (i := 15) (v := ?_) rfl (by kernel_rfl) (by kernel_rfl) (by kernel_rfl) (fun _ _ _ h => h) (Or.inl ⟨by rfl, ?_⟩) hHeld ?_
        rotate_left
        · (intro w hSw; (try dsimp only at hSw); go_simp; try with_reducible rfl)
        try go_frame
        refine wpAnyH_takeL (i := 16) (v := ?_) rfl (by kernel_rfl) (by kernel_rfl) (by kernel_rfl) (fun _ _ _ h => h) (Or.inl ⟨by rfl, ?_⟩) hHeld ?_
        rotate_left
        · (intro w hSw; (try dsimp only at hSw); go_simp; try with_reducible rfl)
        try go_frame
        refine wpAnyH_takeL (i := 17) (v := ?_) rfl (by kernel_rfl) (by kernel_rfl) (by kernel_rfl) (fun _ _ _ h => h) (Or.inl ⟨by rfl, ?_⟩) hHeld ?_
        rotate_left
        · (intro w hSw; (try dsimp only at hSw); go_simp; try with_reducible rfl)
        try go_frame
        refine wpAnyH_takeL (i := 18) (v := ?_) rfl (by kernel_rfl) (by kernel_rfl) (by kernel_rfl) (fun _ _ _ h => h) (Or.inl ⟨by rfl, ?_⟩) hHeld ?_
        rotate_left
        · (intro w hSw; (try dsimp only at hSw); go_simp; try with_reducible rfl)
        try go_frame
        refine wpAnyH_takeL (i := 19) (v := ?_) rfl (by kernel_rfl) (by kernel_rfl) (by kernel_rfl) (fun _ _ _ h => h) (Or.inl ⟨by rfl, ?_⟩) hHeld ?_
        rotate_left
        · (intro w hSw; (try dsimp only at hSw); go_simp; try with_reducible rfl)
        try go_frame
        refine wpAnyH_takeL (i := 20) (v := undef) rfl (by kernel_rfl) (by kernel_rfl) (by kernel_rfl) (fun _ _ _ h => h) (Or.inr ⟨by rfl, rfl⟩) hHeld ?_
        try go_frame
        refine wpAnyH_takeL (i := 21) (v := undef) rfl (by kernel_rfl) (by kernel_rfl) (by kernel_rfl) (fun _ _ _ h => h) (Or.inr ⟨by rfl, rfl⟩) hHeld ?_
        try go_frame
        refine wpAnyH_takeL (i := 22) (v := undef) rfl (by kernel_rfl) (by kernel_rfl) (by kernel_rfl) (fun _ _ _ h => h) (Or.inr ⟨by rfl, rfl⟩) hHeld ?_
        try go_frame
        refine wpAnyH_takeL (i := 23) (v := undef) rfl (by kernel_rfl) (by kernel_rfl) (by kernel_rfl) (fun _ _ _ h => h) (Or.inr ⟨by rfl, rfl⟩) hHeld ?_
        try go_frame
        refine wpAnyH_takeL (i := 24) (v := undef) rfl (by kernel_rfl) (by kernel_rfl) (by kernel_rfl) (fun _ _ _ h => h) (Or.inr ⟨by rfl, rfl⟩) hHeld ?_
        try go_frame
        refine wpAnyH_takeL (i := 25) (v := undef) rfl (by kernel_rfl) (by kernel_rfl) (by kernel_rfl) (fun _ _ _ h => h) (Or.inr ⟨by rfl, rfl⟩) hHeld ?_
        try go_frame
        refine wpAnyH_takeL (i := 26) (v := undef) rfl (by kernel_rfl) (by kernel_rfl) (by kernel_rfl) (fun _ _ _ h => h) (Or.inr ⟨by rfl, rfl⟩) hHeld ?_
        try go_frame
        refine wpAnyH_takeL (i := 27) (v := undef) rfl (by kernel_rfl) (by kernel_rfl) (by kernel_rfl) (fun _ _ _ h => h) (Or.inr ⟨by rfl, rfl⟩) hHeld ?_
        try go_frame
        refine wpAnyH_takeL (i := 28) (v := undef) rfl (by kernel_rfl) (by kernel_rfl) (by kernel_rfl) (fun _ _ _ h => h) (Or.inr ⟨by rfl, rfl⟩) hHeld ?_
        try go_frame
        refine wpAnyH_takeL (i := 29) (v := undef) rfl (by kernel_rfl) (by kernel_rfl) (by kernel_rfl) (fun _ _ _ h => h) (Or.inr ⟨by rfl, rfl⟩) hHeld ?_
        try go_frame
        refine wpAnyH_takeL (i := 30) (v := undef) rfl (by kernel_rfl) (by kernel_rfl) (by kernel_rfl) (fun _ _ _ h => h) (Or.inr ⟨by rfl, rfl⟩) hHeld ?_
        try go_frame
        refine wpAnyH_takeL (i := 31) (v := undef) rfl (by kernel_rfl) (by kernel_rfl) (by kernel_rfl) (fun _ _ _ h => h) (Or.inr ⟨by rfl, rfl⟩) hHeld ?_
        try go_frame
        refine wpAnyH_takeL (i := 32) (v := ?_) rfl (by kernel_rfl) (by kernel_rfl) (by kernel_rfl) (fun _ _ _ h => h) (Or.inl ⟨by rfl, ?_⟩) hHeld ?_
        rotate_left
        · (intro w hSw; (try dsimp only at hSw); go_simp; try with_reducible rfl)
        try go_frame
        refine wpAnyH_takeL (i := 33) (v := ?_) rfl (by kernel_rfl) (by kernel_rfl) (by kernel_rfl) (fun _ _ _ h => h) (Or.inl ⟨by rfl, ?_⟩) hHeld ?_
        rotate_left
        · (intro w hSw; (try dsimp only at hSw); go_simp; try with_reducible rfl)
        try go_frame
        refine wpAnyH_done (by kernel_rfl) ?_ _
        have KZ : Hid (Below w2.heap.size w2 wr.drew) := HBK.out.trans (k0.mono HBK.out.size)
        clear k0 HMK hHeld
        go_wp2
        go_roundw
        case rel => exact ⟨1, by omega, by go_num, KZ.out⟩
        case measure => simp [intOf]; omega
      · have hkp : 0 < k := by omega
        have hkI : (0 : Int) < (k : Int) := by omega
        have hkd : decide ((0 : Int) < (k : Int)) = true := decide_eq_true hkI
        have hkd' : decide (0 < k) = true := decide_eq_true hkp
        have hj1 : (0 : Int) ≤ (k : Int) - 1 := by omega
        have hj2 : (k : Int) - 1 < (nl : Int) := by omega
        have hj3 : (1 : Int) ≤ (k : Int) := by omega
        have hjt : ((k : Int) - 1).toNat = k - 1 := by omega
        have wj : IntKind.i64.wrap ((k : Int) - 1) = (k : Int) - 1 := by rw [IntWalk.i64_left]; unfold wrap64; omega
        obtain ⟨s', q', d', t', nn', hg', _, e0, e1, e2, e3, e4⟩ := F2.out.ent hb hbb (k - 1) (by omega)
        have hqq : q < q' := by
          have hk1 := (List.getElem?_eq_some_iff.1 hg').1
          have hk2 := (List.getElem?_eq_some_iff.1 hg).1
          have h1 := List.pairwise_iff_getElem.1 HDE.out (k - 1) k hk1 hk2 (by omega)
          rw [(List.getElem?_eq_some_iff.1 hg').2, (List.getElem?_eq_some_iff.1 hg).2] at h1
          exact h1
        have hqq' : ¬ q' ≤ q := by omega
        have hqqd : decide (q' ≤ q) = false := decide_eq_false hqq'
        have HMK : Hid (∀ w', Below wr.heap.size wr w' → (w'.cell? ⟨b, off + k * 5, none⟩ = some (.string s) ∧ w'.cell? ⟨b, off + k * 5 + 1, none⟩ = some (.int .i64 q) ∧ b < w'.heap.size ∧ w'.cell? ⟨b, off + (k - 1) * 5 + 1, none⟩ = some (.int .i64 q'))) := fun w' kk => ⟨cell_later kk g0, cell_later kk g1, Nat.lt_of_lt_of_le hbr kk.size, cell_later kk e1⟩
        clear hg hg' hmem hb g0 g1 g2 g3 g4 e0 e1 e2 e3 e4
        go_wp2_with fail
        refine wp_region_held_drew (S := (fun w' => w'.cell? ⟨b, off + k * 5, none⟩ = some (.string s) ∧ w'.cell? ⟨b, off + k * 5 + 1, none⟩ = some (.int .i64 q) ∧ b < w'.heap.size ∧ w'.cell? ⟨b, off + (k - 1) * 5 + 1, none⟩ = some (.int .i64 q'))) (by kernel_rfl) (HMK.out _ k0) (fun hHeld => ?_)
        refine wpAnyH_takeL (i := 0) (v := ?_) rfl (by kernel_rfl) (by kernel_rfl) (by kernel_rfl) (fun _ _ _ h => h) (Or.inl ⟨by rfl, ?_⟩) hHeld ?_
        rotate_left
        · (intro w hSw; (try dsimp only at hSw); go_simp; try with_reducible rfl)
        try go_frame
        refine wpAnyH_takeL (i := 1) (v := ?_) rfl (by kernel_rfl) (by kernel_rfl) (by kernel_rfl) (fun _ _ _ h => h) (Or.inl ⟨by rfl, ?_⟩) hHeld ?_
        rotate_left
        · (intro w hSw; (try dsimp only at hSw); go_simp; try with_reducible rfl)
        try go_frame
        refine wpAnyH_takeL (i := 2) (v := ?_) rfl (by kernel_rfl) (by kernel_rfl) (by kernel_rfl) (fun _ _ _ h => h) (Or.inl ⟨by rfl, ?_⟩) hHeld ?_
        rotate_left
        · (intro w hSw; (try dsimp only at hSw); go_simp; try with_reducible rfl)
        try go_frame
        refine wpAnyH_takeL (i := 3) (v := ?_) rfl (by kernel_rfl) (by kernel_rfl) (by kernel_rfl) (fun _ _ _ h => h) (Or.inl ⟨by rfl, ?_⟩) hHeld ?_
        rotate_left
        · (intro w hSw; (try dsimp only at hSw); go_simp; try with_reducible rfl)
        try go_frame
        refine wpAnyH_takeL (i := 4) (v := ?_) rfl (by kernel_rfl) (by kernel_rfl) (by kernel_rfl) (fun _ _ _ h => h) (Or.inl ⟨by rfl, ?_⟩) hHeld ?_
        rotate_left
        · (intro w hSw; (try dsimp only at hSw); go_simp; try with_reducible rfl)
        try go_frame
        refine wpAnyH_takeL (i := 5) (v := ?_) rfl (by kernel_rfl) (by kernel_rfl) (by kernel_rfl) (fun _ _ _ h => h) (Or.inl ⟨by rfl, ?_⟩) hHeld ?_
        rotate_left
        · (intro w hSw; (try dsimp only at hSw); go_simp; try with_reducible rfl)
        try go_frame
        refine wpAnyH_takeL (i := 6) (v := ?_) rfl (by kernel_rfl) (by kernel_rfl) (by kernel_rfl) (fun _ _ _ h => h) (Or.inl ⟨by rfl, ?_⟩) hHeld ?_
        rotate_left
        · (intro w hSw; (try dsimp only at hSw); go_simp; try with_reducible rfl)
        try go_frame
        refine wpAnyH_takeL (i := 7) (v := ?_) rfl (by kernel_rfl) (by kernel_rfl) (by kernel_rfl) (fun _ _ _ h => h) (Or.inl ⟨by rfl, ?_⟩) hHeld ?_
        rotate_left
        · (intro w hSw; (try dsimp only at hSw); go_simp; try with_reducible rfl)
        try go_frame
        refine wpAnyH_takeL (i := 8) (v := ?_) rfl (by kernel_rfl) (by kernel_rfl) (by kernel_rfl) (fun _ _ _ h => h) (Or.inl ⟨by rfl, ?_⟩) hHeld ?_
        rotate_left
        · (intro w hSw; (try dsimp only at hSw); go_simp; try with_reducible rfl)
        try go_frame
        refine wpAnyH_takeL (i := 9) (v := ?_) rfl (by kernel_rfl) (by kernel_rfl) (by kernel_rfl) (fun _ _ _ h => h) (Or.inl ⟨by rfl, ?_⟩) hHeld ?_
        rotate_left
        · (intro w hSw; (try dsimp only at hSw); go_simp; try with_reducible rfl)
        try go_frame
        refine wpAnyH_takeL (i := 10) (v := ?_) rfl (by kernel_rfl) (by kernel_rfl) (by kernel_rfl) (fun _ _ _ h => h) (Or.inl ⟨by rfl, ?_⟩) hHeld ?_
        rotate_left
        · (intro w hSw; (try dsimp only at hSw); go_simp; try with_reducible rfl)
        try go_frame
        refine wpAnyH_takeL (i := 11) (v := ?_) rfl (by kernel_rfl) (by kernel_rfl) (by kernel_rfl) (fun _ _ _ h => h) (Or.inl ⟨by rfl, ?_⟩) hHeld ?_
        rotate_left
        · (intro w hSw; (try dsimp only at hSw); go_simp; try with_reducible rfl)
        try go_frame
        refine wpAnyH_takeL (i := 12) (v := ?_) rfl (by kernel_rfl) (by kernel_rfl) (by kernel_rfl) (fun _ _ _ h => h) (Or.inl ⟨by rfl, ?_⟩) hHeld ?_
        rotate_left
        · (intro w hSw; (try dsimp only at hSw); go_simp; try with_reducible rfl)
        try go_frame
        refine wpAnyH_takeL (i := 13) (v := ?_) rfl (by kernel_rfl) (by kernel_rfl) (by kernel_rfl) (fun _ _ _ h => h) (Or.inl ⟨by rfl, ?_⟩) hHeld ?_
        rotate_left
        · (intro w hSw; (try dsimp only at hSw); go_simp; try with_reducible rfl)
        try go_frame
        refine wpAnyH_takeL (i := 14) (v := ?_) rfl (by kernel_rfl) (by kernel_rfl) (by kernel_rfl) (fun _ _ _ h => h) (Or.inl ⟨by rfl, ?_⟩) hHeld ?_
        rotate_left
        · (intro w hSw; (try dsimp only at hSw); go_simp; try with_reducible rfl)
        try go_frame
        refine wpAnyH_takeL (i := 15) (v := ?_) rfl (by kernel_rfl) (by kernel_rfl) (by kernel_rfl) (fun _ _ _ h => h) (Or.inl ⟨by rfl, ?_⟩) hHeld ?_
        rotate_left
        · (intro w hSw; (try dsimp only at hSw); go_simp; try with_reducible rfl)
        try go_frame
        refine wpAnyH_takeL (i := 16) (v := ?_) rfl (by kernel_rfl) (by kernel_rfl) (by kernel_rfl) (fun _ _ _ h => h) (Or.inl ⟨by rfl, ?_⟩) hHeld ?_
        rotate_left
        · (intro w hSw; (try dsimp only at hSw); go_simp; try with_reducible rfl)
        try go_frame
        refine wpAnyH_takeL (i := 17) (v := ?_) rfl (by kernel_rfl) (by kernel_rfl) (by kernel_rfl) (fun _ _ _ h => h) (Or.inl ⟨by rfl, ?_⟩) hHeld ?_
        rotate_left
        · (intro w hSw; (try dsimp only at hSw); go_simp; try with_reducible rfl)
        try go_frame
        refine wpAnyH_takeL (i := 18) (v := ?_) rfl (by kernel_rfl) (by kernel_rfl) (by kernel_rfl) (fun _ _ _ h => h) (Or.inl ⟨by rfl, ?_⟩) hHeld ?_
        rotate_left
        · (intro w hSw; (try dsimp only at hSw); go_simp; try with_reducible rfl)
        try go_frame
        refine wpAnyH_takeL (i := 19) (v := ?_) rfl (by kernel_rfl) (by kernel_rfl) (by kernel_rfl) (fun _ _ _ h => h) (Or.inl ⟨by rfl, ?_⟩) hHeld ?_
        rotate_left
        · (intro w hSw; (try dsimp only at hSw); go_simp; try with_reducible rfl)
        try go_frame
        refine wpAnyH_takeL (i := 20) (v := ?_) rfl (by kernel_rfl) (by kernel_rfl) (by kernel_rfl) (fun _ _ _ h => h) (Or.inl ⟨by rfl, ?_⟩) hHeld ?_
        rotate_left
        · (intro w hSw; (try dsimp only at hSw); go_simp; try with_reducible rfl)
        try go_frame
        refine wpAnyH_takeL (i := 21) (v := ?_) rfl (by kernel_rfl) (by kernel_rfl) (by kernel_rfl) (fun _ _ _ h => h) (Or.inl ⟨by rfl, ?_⟩) hHeld ?_
        rotate_left
        · (intro w hSw; (try dsimp only at hSw); go_simp; try with_reducible rfl)
        try go_frame
        refine wpAnyH_takeL (i := 22) (v := ?_) rfl (by kernel_rfl) (by kernel_rfl) (by kernel_rfl) (fun _ _ _ h => h) (Or.inl ⟨by rfl, ?_⟩) hHeld ?_
        rotate_left
        · (intro w hSw; (try dsimp only at hSw); go_simp; try with_reducible rfl)
        try go_frame
        refine wpAnyH_takeL (i := 23) (v := ?_) rfl (by kernel_rfl) (by kernel_rfl) (by kernel_rfl) (fun _ _ _ h => h) (Or.inl ⟨by rfl, ?_⟩) hHeld ?_
        rotate_left
        · (intro w hSw; (try dsimp only at hSw); go_simp; try with_reducible rfl)
        try go_frame
        refine wpAnyH_takeL (i := 24) (v := ?_) rfl (by kernel_rfl) (by kernel_rfl) (by kernel_rfl) (fun _ _ _ h => h) (Or.inl ⟨by rfl, ?_⟩) hHeld ?_
        rotate_left
        · (intro w hSw; (try dsimp only at hSw); go_simp; try with_reducible rfl)
        try go_frame
        refine wpAnyH_takeL (i := 25) (v := ?_) rfl (by kernel_rfl) (by kernel_rfl) (by kernel_rfl) (fun _ _ _ h => h) (Or.inl ⟨by rfl, ?_⟩) hHeld ?_
        rotate_left
        · (intro w hSw; (try dsimp only at hSw); go_simp; try with_reducible rfl)
        try go_frame
        refine wpAnyH_takeL (i := 26) (v := ?_) rfl (by kernel_rfl) (by kernel_rfl) (by kernel_rfl) (fun _ _ _ h => h) (Or.inl ⟨by rfl, ?_⟩) hHeld ?_
        rotate_left
        · (intro w hSw; (try dsimp only at hSw); go_simp; try with_reducible rfl)
        try go_frame
        refine wpAnyH_takeL (i := 27) (v := ?_) rfl (by kernel_rfl) (by kernel_rfl) (by kernel_rfl) (fun _ _ _ h => h) (Or.inl ⟨by rfl, ?_⟩) hHeld ?_
        rotate_left
        · (intro w hSw; (try dsimp only at hSw); go_simp; try with_reducible rfl)
        try go_frame
        refine wpAnyH_takeL (i := 28) (v := ?_) rfl (by kernel_rfl) (by kernel_rfl) (by kernel_rfl) (fun _ _ _ h => h) (Or.inl ⟨by rfl, ?_⟩) hHeld ?_
        rotate_left
        · (intro w hSw; (try dsimp only at hSw); go_simp; try with_reducible rfl)
        try go_frame
        refine wpAnyH_takeL (i := 29) (v := ?_) rfl (by kernel_rfl) (by kernel_rfl) (by kernel_rfl) (fun _ _ _ h => h) (Or.inl ⟨by rfl, ?_⟩) hHeld ?_
        rotate_left
        · (intro w hSw; (try dsimp only at hSw); go_simp; try with_reducible rfl)
        try go_frame
        refine wpAnyH_takeL (i := 30) (v := ?_) rfl (by kernel_rfl) (by kernel_rfl) (by kernel_rfl) (fun _ _ _ h => h) (Or.inl ⟨by rfl, ?_⟩) hHeld ?_
        rotate_left
        · (intro w hSw; (try dsimp only at hSw); go_simp; try with_reducible rfl)
        try go_frame
        refine wpAnyH_takeL (i := 31) (v := ?_) rfl (by kernel_rfl) (by kernel_rfl) (by kernel_rfl) (fun _ _ _ h => h) (Or.inl ⟨by rfl, ?_⟩) hHeld ?_
        rotate_left
        · (intro w hSw; (try dsimp only at hSw); go_simp; try with_reducible rfl)
        try go_frame
        refine wpAnyH_takeL (i := 32) (v := ?_) rfl (by kernel_rfl) (by kernel_rfl) (by kernel_rfl) (fun _ _ _ h => h) (Or.inl ⟨by rfl, ?_⟩) hHeld ?_
        rotate_left
        · (intro w hSw; (try dsimp only at hSw); go_simp; try with_reducible rfl)
        try go_frame
        refine wpAnyH_takeL (i := 33) (v := ?_) rfl (by kernel_rfl) (by kernel_rfl) (by kernel_rfl) (fun _ _ _ h => h) (Or.inl ⟨by rfl, ?_⟩) hHeld ?_
        rotate_left
        · (intro w hSw; (try dsimp only at hSw); go_simp; try with_reducible rfl)
        try go_frame
        refine wpAnyH_done (by kernel_rfl) ?_ _
        have KZ : Hid (Below w2.heap.size w2 wr.drew) := HBK.out.trans (k0.mono HBK.out.size)
        clear k0 HMK hHeld
        go_wp2
        go_roundw
        case rel => exact ⟨k + 1, by omega, by go_num, KZ.out⟩
        case measure => simp [intOf]; omega
    · obtain ⟨x, hx⟩ : ∃ x, x = cellL L key seq := ⟨_, rfl⟩
      have HX1 : Hid (cellL F key seq = x) := by show cellL F key seq = x; rw [hx, HFL.out]; unfold cellL; rw [find_again]
      obtain ⟨xb, xt, xn⟩ := x
      have CF : Hid (∀ w', Below wr.heap.size wr w' → Calls Try.prog 21 #[.slice al nl cl, .string key, .int .i64 seq] w' fun e w'' => e = .returned (.agg #[.bool xb, .string xt, .int .i64 xn]) ∧ Below w'.heap.size w' w'') := fun w' kk => by
        have := implCellAll al nl cl F key seq w' (F2.out.keep (HBK.out.trans (kk.mono HBK.out.size))) (by omega) (by have := find_len F key seq; rw [HFN.out] at this; omega) (fun e he => HTX.out e (find_mem (by rw [← HFL.out]; exact he)))
        rw [HX1.out] at this
        exact this
      have CE : Hid (∀ w', Below wr.heap.size wr w' → Calls Try.prog 21 #[.slice (some ⟨g, 0, none⟩) n c, .string key, .int .i64 seq] w' fun e w'' => e = .returned (.agg #[.bool xb, .string xt, .int .i64 xn]) ∧ Below w'.heap.size w' w'') := fun w' kk => by
        have := implCellAll _ _ _ L key seq w' (E2.out.keep (HBK.out.trans (kk.mono HBK.out.size))) (by omega) (by have := find_len L key seq; rw [HLN.out] at this; omega) HTX.out
        rw [← hx] at this
        exact this
      have CM : Hid (∀ w', Below wr.heap.size wr w' → Calls Try.prog 24 #[.agg #[.slice (some ⟨g, 0, none⟩) n c, .int .i64 m], .string key, .int .i64 (seq + 1)] w' fun e w'' => ∃ (a3 : Option Addr) (n3 c3 : Nat), e = .returned (.slice a3 n3 c3) ∧ nl ≤ n3 ∧ n3 ≤ 9223372036854775807 ∧ Below w'.heap.size w' w'') := fun w' kk => by
        refine (implFind _ _ _ L m key (seq + 1) w' (E2.out.keep (HBK.out.trans (kk.mono HBK.out.size))) (by omega)).mono ?_
        intro e w'' hfv
        obtain ⟨a3, n3, c3, rfl, hO3, hb3⟩ := foundV_own hfv
        have hl3 := hO3.len
        rw [found_yes HR.out] at hl3
        have hgr := find_grow L key seq
        rw [← HFL.out, HFN.out, hl3] at hgr
        have hr3 := hO3.entsAt.room
        have hb3' := hO3.entsAt.big
        unfold maxLen at hb3'
        exact ⟨a3, n3, c3, rfl, hgr, by omega, hb3⟩
      clear hx
      have y0 := cell_later hb x0
      have y1 := cell_later hb x1
      have heq := eql_cell_same xb xt xn
      have k0 : Below wr.heap.size wr wr.drew := (Below.refl _ wr).drew
      have HMK : Hid (∀ w', Below wr.heap.size wr w' → (w'.cell? ⟨X, 0, none⟩ = some (.slice (some ⟨g, 0, none⟩) n c) ∧ w'.cell? ⟨X, 1, none⟩ = some (.int .i64 m) ∧ X < w'.heap.size)) := fun w' kk => ⟨cell_later kk y0, cell_later kk y1, World.block_lt_of_cell? _ _ (cell_later kk y0)⟩
      clear hb y0 y1 x0 x1 zx
      go_wp2_with fail
      refine wp_region_held_drew (S := (fun w' => w'.cell? ⟨X, 0, none⟩ = some (.slice (some ⟨g, 0, none⟩) n c) ∧ w'.cell? ⟨X, 1, none⟩ = some (.int .i64 m) ∧ X < w'.heap.size)) (by kernel_rfl) (HMK.out _ k0) (fun hHeld => ?_)
      refine wpAnyH_takeL (i := 0) (v := ?_) rfl (by kernel_rfl) (by kernel_rfl) (by kernel_rfl) (fun _ _ _ h => h) (Or.inl ⟨by rfl, ?_⟩) hHeld ?_
      rotate_left
      · (intro w hSw; (try dsimp only at hSw); go_simp; try with_reducible rfl)
      try go_frame
      refine wpAnyH_takeL (i := 1) (v := ?_) rfl (by kernel_rfl) (by kernel_rfl) (by kernel_rfl) (fun _ _ _ h => h) (Or.inl ⟨by rfl, ?_⟩) hHeld ?_
      rotate_left
      · (intro w hSw; (try dsimp only at hSw); go_simp; try with_reducible rfl)
      try go_frame
      refine wpAnyH_takeL (i := 2) (v := ?_) rfl (by kernel_rfl) (by kernel_rfl) (by kernel_rfl) (fun _ _ _ h => h) (Or.inl ⟨by rfl, ?_⟩) hHeld ?_
      rotate_left
      · (intro w hSw; (try dsimp only at hSw); go_simp; try with_reducible rfl)
      try go_frame
      refine wpAnyH_takeL (i := 4) (v := ?_) rfl (by kernel_rfl) (by kernel_rfl) (by kernel_rfl) (fun _ _ _ h => h) (Or.inl ⟨by rfl, ?_⟩) hHeld ?_
      rotate_left
      · (intro w hSw; (try dsimp only at hSw); go_simp; try with_reducible rfl)
      try go_frame
      refine wpAnyH_takeL (i := 5) (v := ?_) rfl (by kernel_rfl) (by kernel_rfl) (by kernel_rfl) (fun _ _ _ h => h) (Or.inl ⟨by rfl, ?_⟩) hHeld ?_
      rotate_left
      · (intro w hSw; (try dsimp only at hSw); go_simp; try with_reducible rfl)
      try go_frame
      refine wpAnyH_takeL (i := 6) (v := ?_) rfl (by kernel_rfl) (by kernel_rfl) (by kernel_rfl) (fun _ _ _ h => h) (Or.inl ⟨by rfl, ?_⟩) hHeld ?_
      rotate_left
      · (intro w hSw; (try dsimp only at hSw); go_simp; try with_reducible rfl)
      try go_frame
      refine wpAnyH_takeL (i := 7) (v := ?_) rfl (by kernel_rfl) (by kernel_rfl) (by kernel_rfl) (fun _ _ _ h => h) (Or.inl ⟨by rfl, ?_⟩) hHeld ?_
      rotate_left
      · (intro w hSw; (try dsimp only at hSw); go_simp; try with_reducible rfl)
      try go_frame
      refine wpAnyH_ready (rs := [3]) (by kernel_rfl) (by simp) ?_
      refine consL rfl (fun K hK => ?_) AllReadyH.nil
      go_simp
      with_reducible refine (CF.out _ k0).mono ?_
      rintro e wz1 ⟨rfl, bz1⟩
      have kz1 : Below wr.heap.size wr wz1 := k0.trans (bz1.mono k0.size)
      go_wp2_with fail
      refine hK.out _ _ (HMK.out _ kz1) (fun hHeld => ?_)
      clear hK K
      try go_frame
      refine wpAnyH_ready (rs := [8]) (by kernel_rfl) (by simp) ?_
      refine consL rfl (fun K hK => ?_) AllReadyH.nil
      go_simp
      with_reducible refine (CE.out _ kz1).mono ?_
      rintro e wz2 ⟨rfl, bz2⟩
      have kz2 : Below wr.heap.size wr wz2 := kz1.trans (bz2.mono kz1.size)
      go_wp2_with fail
      refine hK.out _ _ (HMK.out _ kz2) (fun hHeld => ?_)
      clear hK K
      try go_frame
      refine wpAnyH_takeL (i := 9) (v := ?_) rfl (by kernel_rfl) (by kernel_rfl) (by kernel_rfl) (fun _ _ _ h => h) (Or.inl ⟨by rfl, ?_⟩) hHeld ?_
      rotate_left
      · (intro w hSw; (try dsimp only at hSw); go_simp; try with_reducible rfl)
      try go_frame
      refine wpAnyH_takeL (i := 10) (v := ?_) rfl (by kernel_rfl) (by kernel_rfl) (by kernel_rfl) (fun _ _ _ h => h) (Or.inl ⟨by rfl, ?_⟩) hHeld ?_
      rotate_left
      · (intro w hSw; (try dsimp only at hSw); go_simp; try with_reducible rfl)
      try go_frame
      refine wpAnyH_takeL (i := 11) (v := ?_) rfl (by kernel_rfl) (by kernel_rfl) (by kernel_rfl) (fun _ _ _ h => h) (Or.inl ⟨by rfl, ?_⟩) hHeld ?_
      rotate_left
      · (intro w hSw; (try dsimp only at hSw); go_simp; try with_reducible rfl)
      try go_frame
      refine wpAnyH_takeL (i := 12) (v := ?_) rfl (by kernel_rfl) (by kernel_rfl) (by kernel_rfl) (fun _ _ _ h => h) (Or.inl ⟨by rfl, ?_⟩) hHeld ?_
      rotate_left
      · (intro w hSw; (try dsimp only at hSw); go_simp; try with_reducible rfl)
      try go_frame
      refine wpAnyH_takeL (i := 13) (v := ?_) rfl (by kernel_rfl) (by kernel_rfl) (by kernel_rfl) (fun _ _ _ h => h) (Or.inl ⟨by rfl, ?_⟩) hHeld ?_
      rotate_left
      · (intro w hSw; (try dsimp only at hSw); go_simp; try with_reducible rfl)
      try go_frame
      refine wpAnyH_takeL (i := 14) (v := ?_) rfl (by kernel_rfl) (by kernel_rfl) (by kernel_rfl) (fun _ _ _ h => h) (Or.inl ⟨by rfl, ?_⟩) hHeld ?_
      rotate_left
      · (intro w hSw; (try dsimp only at hSw); go_simp; try with_reducible rfl)
      try go_frame
      refine wpAnyH_takeL (i := 15) (v := ?_) rfl (by kernel_rfl) (by kernel_rfl) (by kernel_rfl) (fun _ _ _ h => h) (Or.inl ⟨by rfl, ?_⟩) hHeld ?_
      rotate_left
      · (intro w hSw; (try dsimp only at hSw); go_simp; try with_reducible rfl)
      try go_frame
      refine wpAnyH_takeL (i := 16) (v := ?_) rfl (by kernel_rfl) (by kernel_rfl) (by kernel_rfl) (fun _ _ _ h => h) (Or.inl ⟨by rfl, ?_⟩) hHeld ?_
      rotate_left
      · (intro w hSw; (try dsimp only at hSw); go_simp; try with_reducible rfl)
      try go_frame
      refine wpAnyH_ready (rs := [17]) (by kernel_rfl) (by simp) ?_
      refine consL rfl (fun K hK => ?_) AllReadyH.nil
      go_simp
      with_reducible refine (CM.out _ kz2).mono ?_
      rintro e wz3 ⟨a3, n3, c3, rfl, hn3, hc3, bz3⟩
      have kz3 : Below wr.heap.size wr wz3 := kz2.trans (bz3.mono kz2.size)
      have hl3 : (nl : Int) ≤ (n3 : Int) := by omega
      go_wp2_with fail
      refine hK.out _ _ (HMK.out _ kz3) (fun hHeld => ?_)
      clear hK K
      try go_frame
      refine wpAnyH_takeL (i := 18) (v := ?_) rfl (by kernel_rfl) (by kernel_rfl) (by kernel_rfl) (fun _ _ _ h => h) (Or.inl ⟨by rfl, ?_⟩) hHeld ?_
      rotate_left
      · (intro w hSw; (try dsimp only at hSw); go_simp; try with_reducible rfl)
      try go_frame
      refine wpAnyH_takeL (i := 19) (v := ?_) rfl (by kernel_rfl) (by kernel_rfl) (by kernel_rfl) (fun _ _ _ h => h) (Or.inl ⟨by rfl, ?_⟩) hHeld ?_
      rotate_left
      · (intro w hSw; (try dsimp only at hSw); go_simp; try with_reducible rfl)
      try go_frame
      refine wpAnyH_takeL (i := 20) (v := ?_) rfl (by kernel_rfl) (by kernel_rfl) (by kernel_rfl) (fun _ _ _ h => h) (Or.inl ⟨by rfl, ?_⟩) hHeld ?_
      rotate_left
      · (intro w hSw; (try dsimp only at hSw); go_simp; try with_reducible rfl)
      try go_frame
      refine wpAnyH_takeL (i := 21) (v := ?_) rfl (by kernel_rfl) (by kernel_rfl) (by kernel_rfl) (fun _ _ _ h => h) (Or.inl ⟨by rfl, ?_⟩) hHeld ?_
      rotate_left
      · (intro w hSw; (try dsimp only at hSw); go_simp; try with_reducible rfl)
      try go_frame
      refine wpAnyH_done (by kernel_rfl) ?_ _
      have KZ : Hid (Below wr.heap.size wr wz3) := kz3
      clear k0 HMK hHeld kz1 kz2 kz3 bz1 bz2 bz3
      go_wp2
      go_ret
      exact ⟨rfl, KA.out.trans ((HBK.out.trans (KZ.out.mono HBK.out.size)).mono KA.out.size)⟩
end Go.Proofs.Ytanhmpbjbdpkgaa
