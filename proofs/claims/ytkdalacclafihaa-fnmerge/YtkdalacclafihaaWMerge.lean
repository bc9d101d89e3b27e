/-
  The walk of the law FnMerge: it answers true at all bytes.
-/
import Derived.Test.YtkdalacclafihaaMgM
import Derived.Test.YtkdalacclafihaaMgG
import Derived.Test.YtkdalacclafihaaMgL
import Derived.Test.YtkdalacclafihaaDrawMg
import Derived.Test.YtkdalacclafihaaWpEnts
namespace Go.Proofs.Ytkdalacclafihaa
open Go.RowKit

/-- Lists of unlike times: their entries are few and fit. -/
theorem drawn_flat {P : List (List EntD)} {L : List EntD} (hX : AllX L 32) (hL : L.length ≤ 16) (h : P.flatten.Perm L ∨ P = []) : UnT P.flatten ∧ P.flatten.length ≤ 16 ∧ ∀ e ∈ P.flatten, e.1.size ≤ 281474976710656 ∧ e.2.2.2.1.size ≤ 281474976710656 := by
  rcases h with h | rfl
  · refine ⟨hX.2.perm h.symm, by rw [h.length_eq]; exact hL, fun e he => ?_⟩
    have h1 := (hX.1 e (h.mem_iff.1 he)).1
    have h2 := h1.1.2.1.1
    have h3 := h1.1.1.1
    exact ⟨by omega, by omega⟩
  · exact ⟨List.Pairwise.nil, by simp, fun e he => by cases he⟩
theorem PartsOwn.ents {w : World} {base g n c : Nat} {P : List (List EntD)} {vs : List Value} {y : Option Nat} (h : PartsOwn w base g n c P vs y) {k : Nat} {L : List EntD} (hk : P[k]? = some L) : ∃ s m d, w.cell? ⟨g, k, none⟩ = some (.slice s m d) ∧ EntsAt w s m d L := by
  obtain ⟨s, m, d, hv, hE, _⟩ := h.lists k L hk
  refine ⟨s, m, d, ?_, hE⟩
  have := h.owns.cellAt k (by have := (List.getElem?_eq_some_iff.1 hk).1; rw [h.len] at this; omega)
  rw [hv] at this
  simpa using this
theorem parts_one (w : World) (s : Option Addr) (m d : Nat) (L : List EntD) (h : EntsAt w s m d L) : PartsAt (w.alloc (.cells #[.slice s m d] 24)) (some ⟨w.heap.size, 0, none⟩) 1 1 [L] := by
  have ka : Below w.heap.size w (w.alloc (.cells #[.slice s m d] 24)) := (Below.refl _ _).alloc (Nat.le_refl _) _
  refine ⟨rfl, Nat.le_refl _, by unfold maxLen; omega, (fun e => by cases e), ?_, ?_⟩
  · rintro x e _
    cases e
    exact ⟨by simp, rfl⟩
  · rintro x e i hi
    cases e
    have : i = 0 := by simp at hi; omega
    subst this
    exact ⟨s, m, d, by simp, h.keep ka⟩

set_option maxRecDepth 100000 in
set_option maxHeartbeats 8000000 in
theorem walkFnMerge (a : Option Addr) (len cap : Nat) (w : World) (h : BytesAt w a len cap) :
    Calls Try.prog 4 #[.slice a len cap] w fun e w' => e = .returned (.bool true) ∧ Below w.heap.size w w' := by
  have H : Hid (BytesAt w a len cap) := h
  have hm := Nat.le_trans h.1 h.2.1
  unfold maxLen at hm
  clear h
  by_cases hbig : 1048576 < len
  · go_enter Try.func4, Try.ntmps4
    go_wp2
    go_ret
    exact ⟨rfl, Below.refl _ _⟩
  obtain ⟨i0, hi, hz0, hz1, hz2⟩ := info_parts Try.infoEntS
  go_enter Try.func4, Try.ntmps4
  go_wp2_with fail
  refine (drawMerge_any a len cap w H.out).mono ?_
  rintro e w1 ⟨G, n, c, P, vs, L, rfl, hPO, hn, hLl, hX, hPL, hb1⟩
  obtain ⟨hU, hF16, hSm⟩ := drawn_flat hX hLl hPL
  have HU : Hid (UnT P.flatten) := hU
  have HPN : Hid (P.length = n) := hPO.len
  have HPO : Hid (PartsOwn w1 w.heap.size G n c P vs none) := hPO
  have HB1 : Hid (Below w.heap.size w w1) := hb1
  have HSM : Hid (∀ e ∈ P.flatten, e.1.size ≤ 281474976710656 ∧ e.2.2.2.1.size ≤ 281474976710656) := hSm
  obtain ⟨nf, hnf⟩ : ∃ nf, P.flatten.length = nf := ⟨_, rfl⟩
  have HNF : Hid (P.flatten.length = nf) := hnf
  rw [hnf] at hF16
  obtain ⟨F, hF⟩ : ∃ F, F = sortE P.flatten := ⟨_, rfl⟩
  have HF : Hid (F = sortE P.flatten) := hF
  have HFL : Hid (F.length = nf) := by show F.length = nf; rw [hF, sort_len, hnf]
  have HFM : Hid (∀ e, e ∈ F ↔ e ∈ P.flatten) := fun e => by rw [hF]; exact (sort_both _).2.mem_iff
  have CI : Hid (∀ (Q : List (List EntD)) (g m d : Nat) (w' : World), Q.flatten.Perm P.flatten → m ≤ 3 → PartsAt w' (some ⟨g, 0, none⟩) m d Q → Calls Try.prog 10 #[.slice (some ⟨g, 0, none⟩) m d] w' fun e w'' => ∃ gg, e = .returned (.slice (some ⟨gg, 0, none⟩) nf nf) ∧ OwnE w'' w'.heap.size gg nf nf F ∧ Below w'.heap.size w' w'') := by
    intro Q g m d w' hQ hm3 hQA
    have hql : Q.flatten.length = nf := by rw [hQ.length_eq]; exact hnf
    refine (callsIn_wide.1 (implMerge _ _ _ Q w' hQA (by omega) (by omega) (fun e he => HSM.out e (hQ.mem_iff.1 he)))).mono ?_
    rintro e w'' ⟨⟨gg, rfl, hO⟩, hb⟩
    have hs : sortE Q.flatten = F := by rw [hF]; exact (sort_any HU.out hQ.symm).symm
    rw [hql, hs] at hO
    rw [hql]
    exact ⟨gg, rfl, hO, hb⟩
  have CS : Hid (∀ (w' : World), PartsAt w' (some ⟨G, 0, none⟩) n c P → Calls Try.prog 8 #[.slice (some ⟨G, 0, none⟩) n c] w' fun e w'' => ∃ g cg, e = .returned (.slice (some ⟨g, 0, none⟩) nf cg) ∧ OwnE w'' w'.heap.size g nf cg F ∧ Below w'.heap.size w' w'') := by
    intro w' hQA
    have := specMerge _ _ _ P w' hQA (by omega)
    rw [hnf, ← hF] at this
    exact this
  clear hU hPO hb1 hSm hnf hF hX hPL hLl
  go_wp2_with fail
  refine (CI.out P G n c w1 (List.Perm.refl _) hn HPO.out.partsAt).mono ?_
  rintro e w2 ⟨gf, rfl, hO2, hb2⟩
  have HP2 : Hid (PartsOwn w2 w.heap.size G n c P vs none) := HPO.out.below hb2
  have HO2 : Hid (EntsAt w2 (some ⟨gf, 0, none⟩) nf nf F) := hO2.entsAt
  have HGF : Hid (gf < w2.heap.size) := hO2.lt.2
  have HB2 : Hid (Below w.heap.size w w2) := HB1.out.trans (hb2.mono HB1.out.size)
  clear hO2 hb2 HPO HB1
  go_wp2_with fail
  refine (CS.out w2 HP2.out.partsAt).mono ?_
  rintro e w3 ⟨g3, c3, rfl, hO3, hb3⟩
  have HP3 : Hid (PartsOwn w3 w.heap.size G n c P vs none) := HP2.out.below hb3
  have HO3 : Hid (EntsAt w3 (some ⟨gf, 0, none⟩) nf nf F) := HO2.out.keep hb3
  have HS3 : Hid (EntsAt w3 (some ⟨g3, 0, none⟩) nf c3 F) := hO3.entsAt
  have HB3 : Hid (Below w.heap.size w w3) := HB2.out.trans (hb3.mono HB2.out.size)
  have HG3 : Hid (gf < w3.heap.size) := Nat.lt_of_lt_of_le HGF.out hb3.size
  clear hO3 hb3 HP2 HO2 HB2 HGF CS
  go_wp2_with fail
  refine (wpEnts_any _ _ _ _ _ _ F F w3 HO3.out HS3.out).mono ?_
  rintro e w4 ⟨rfl, hb4⟩
  rw [decide_eq_true rfl]
  have HP4 : Hid (PartsOwn w4 w.heap.size G n c P vs none) := HP3.out.below hb4
  have HO4 : Hid (EntsAt w4 (some ⟨gf, 0, none⟩) nf nf F) := HO3.out.keep hb4
  have HB4 : Hid (Below w.heap.size w w4) := HB3.out.trans (hb4.mono HB3.out.size)
  have HG4 : Hid (gf < w4.heap.size) := Nat.lt_of_lt_of_le HG3.out hb4.size
  clear hb4 HP3 HO3 HS3 HB3 HG3
  have HT0 : Hid (PartsOwn (w4.alloc (.cells #[] 24)) w4.heap.size w4.heap.size 0 0 [] [] none) := parts_none w4 _ (Nat.le_refl _)
  have HBT : Hid (Below w4.heap.size w4 (w4.alloc (.cells #[] 24))) := (Below.refl _ _).alloc (Nat.le_refl _) _
  have wn : IntKind.i64.wrap ((n : Int) - 1) = (n : Int) - 1 := by rw [IntKind.wrap_i64]; omega
  have HGG : Hid (G < w4.heap.size) := HP4.out.lt.2
  go_wp2
  clear wn
  go_loopw [5, 6, 7] (fun nv tv iv wr => ∃ (m s g c : Nat) (vs : List Value) (i : Int), m ≤ n ∧ i = (m : Int) - 1 ∧ iv = .int .i64 i ∧ s = (P.drop m).flatten.length ∧ nv = .int .i64 (s : Nat) ∧ tv = .slice (some ⟨g, 0, none⟩) (n - m) c ∧ PartsOwn wr w4.heap.size g (n - m) c ((P.drop m).reverse) vs none ∧ Below w4.heap.size w4 wr) (fun _ _ iv _ => ((intOf iv) + 1).toNat)
  case atStart =>
    refine ⟨n, 0, w4.heap.size, 0, [], (n : Int) - 1, Nat.le_refl _, rfl, rfl, by rw [List.drop_of_length_le (by rw [HPN.out]; exact Nat.le_refl _)]; rfl, rfl, by rw [Nat.sub_self], ?_, HBT.out⟩
    rw [List.drop_of_length_le (by rw [HPN.out]; exact Nat.le_refl _), Nat.sub_self]
    exact HT0.out
  case round =>
    clear HT0 HBT
    obtain ⟨m, s0, g, c0, vs', i, hmn, hie, rfl, hs0, rfl, rfl, hT, hb⟩ := hrel
    have HT : Hid (PartsOwn wr w4.heap.size g (n - m) c0 ((P.drop m).reverse) vs' none) := hT
    have HB : Hid (Below w4.heap.size w4 wr) := hb
    have HS0 : Hid (s0 = (P.drop m).flatten.length) := hs0
    have hs16 : s0 ≤ 16 := by have h1 := drop_le P m; rw [HNF.out] at h1; omega
    clear hT hb hs0
    rename World => wo
    by_cases hm0 : m = 0
    · subst hm0
      have hneg : ¬ (0 : Int) ≤ i := by omega
      have HSN : Hid (s0 = nf) := by have := HS0.out; rw [List.drop_zero, HNF.out] at this; exact this
      have HT1 : Hid (PartsOwn wo w4.heap.size g n c0 P.reverse vs' none) := by have := HT.out; rw [List.drop_zero, Nat.sub_zero] at this; exact this
      rw [Nat.sub_zero]
      clear hie HT HS0
      go_wp2
      clear hneg
      go_loopw [11] (fun iv wq => ∃ i : Nat, 1 ≤ i ∧ (i ≤ nf ∨ i = 1) ∧ iv = .int .i64 i ∧ Below wo.heap.size wo wq) (fun iv _ => nf + 1 - (intOf iv).toNat)
      case atStart => exact ⟨1, by omega, .inr rfl, rfl, Below.refl _ _⟩
      case round =>
        obtain ⟨i, hi1, hi2, rfl, hbq⟩ := hrel
        have HBQ : Hid (Below wo.heap.size wo wr) := hbq
        have HB5 : Hid (Below w4.heap.size w4 wr) := HB.out.trans (hbq.mono HB.out.size)
        clear hbq
        by_cases hin : i < nf
        · have hinI : (i : Int) < (nf : Int) := by omega
          obtain ⟨j, hj⟩ : ∃ j, i = j + 1 := ⟨i - 1, by omega⟩
          have wj : IntKind.i64.wrap ((i : Int) - 1) = (j : Int) := by rw [IntKind.wrap_i64]; omega
          have hjn : (j : Int) < (nf : Int) := by omega
          obtain ⟨s', q', d', t', m', hy, _, e0, e1, e2, e3, e4⟩ := HO4.out.ent HB5.out HG4.out j (by omega)
          obtain ⟨s, q, d, t, m, hx, _, g0, g1, g2, g3, g4⟩ := HO4.out.ent HB5.out HG4.out i hin
          simp only [Nat.zero_add] at e0 e1 e2 e3 e4 g0 g1 g2 g3 g4
          have hl : lessB s' q' s q = true := by
            have hst : Strict F := by rw [HF.out]; exact sort_strict HU.out
            rw [hj] at hx
            exact strict_next hst hy hx
          have zf : gf < wr.heap.size := Nat.lt_of_lt_of_le HG4.out HB5.out.size
          have k0 : Below wr.heap.size wr wr.drew := (Below.refl _ wr).drew
          have HMK : Hid (∀ w', Below wr.heap.size wr w' → (w'.cell? ⟨gf, j * 5, none⟩ = some (.string s') ∧ w'.cell? ⟨gf, j * 5 + 1, none⟩ = some (.int .i64 q') ∧ w'.cell? ⟨gf, j * 5 + 2, none⟩ = some (.int .i64 d') ∧ w'.cell? ⟨gf, j * 5 + 3, none⟩ = some (.string t') ∧ w'.cell? ⟨gf, j * 5 + 4, none⟩ = some (.int .i64 m') ∧ w'.cell? ⟨gf, i * 5, none⟩ = some (.string s) ∧ w'.cell? ⟨gf, i * 5 + 1, none⟩ = some (.int .i64 q) ∧ w'.cell? ⟨gf, i * 5 + 2, none⟩ = some (.int .i64 d) ∧ w'.cell? ⟨gf, i * 5 + 3, none⟩ = some (.string t) ∧ w'.cell? ⟨gf, i * 5 + 4, none⟩ = some (.int .i64 m) ∧ gf < w'.heap.size)) := fun w' kk => ⟨cell_later kk e0, cell_later kk e1, cell_later kk e2, cell_later kk e3, cell_later kk e4, cell_later kk g0, cell_later kk g1, cell_later kk g2, cell_later kk g3, cell_later kk g4, Nat.lt_of_lt_of_le zf kk.size⟩
          clear hx hy e0 e1 e2 e3 e4 g0 g1 g2 g3 g4 hj zf
          go_wp2_with fail
          refine wp_region_held_drew (S := (fun w' => w'.cell? ⟨gf, j * 5, none⟩ = some (.string s') ∧ w'.cell? ⟨gf, j * 5 + 1, none⟩ = some (.int .i64 q') ∧ w'.cell? ⟨gf, j * 5 + 2, none⟩ = some (.int .i64 d') ∧ w'.cell? ⟨gf, j * 5 + 3, none⟩ = some (.string t') ∧ w'.cell? ⟨gf, j * 5 + 4, none⟩ = some (.int .i64 m') ∧ w'.cell? ⟨gf, i * 5, none⟩ = some (.string s) ∧ w'.cell? ⟨gf, i * 5 + 1, none⟩ = some (.int .i64 q) ∧ w'.cell? ⟨gf, i * 5 + 2, none⟩ = some (.int .i64 d) ∧ w'.cell? ⟨gf, i * 5 + 3, none⟩ = some (.string t) ∧ w'.cell? ⟨gf, i * 5 + 4, none⟩ = some (.int .i64 m) ∧ gf < w'.heap.size)) (by kernel_rfl) (HMK.out _ k0) (fun hHeld => ?_)
          refine wpAnyH_takeL (i := 0) (v := ?_) rfl (by kernel_rfl) (by kernel_rfl) (by kernel_rfl) (fun _ _ _ h => h) (Or.inl ⟨by rfl, ?_⟩) hHeld ?_
          rotate_left
          · (intro w hSw; (try dsimp only at hSw); go_simp; try with_reducible rfl)
          try go_frame
          refine wpAnyH_takeL (i := 1) (v := ?_) rfl (by kernel_rfl) (by kernel_rfl) (by kernel_rfl) (fun _ _ _ h => h) (Or.inl ⟨by rfl, ?_⟩) hHeld ?_
          rotate_left
          · (intro w hSw; (try dsimp only at hSw); go_simp; try with_reducible rfl)
          try go_frame
          refine wpAnyH_takeL (i := 2) (v := ?_) rfl (by kernel_rfl) (by kernel_rfl) (by kernel_rfl) (fun _ _ _ h => h) (Or.inl ⟨by rfl, ?_⟩) hHeld ?_
          rotate_left
          · (intro w hSw; (try dsimp only at hSw); go_simp; try with_reducible rfl)
          try go_frame
          refine wpAnyH_takeL (i := 3) (v := ?_) rfl (by kernel_rfl) (by kernel_rfl) (by kernel_rfl) (fun _ _ _ h => h) (Or.inl ⟨by rfl, ?_⟩) hHeld ?_
          rotate_left
          · (intro w hSw; (try dsimp only at hSw); go_simp; try with_reducible rfl)
          try go_frame
          refine wpAnyH_takeL (i := 4) (v := ?_) rfl (by kernel_rfl) (by kernel_rfl) (by kernel_rfl) (fun _ _ _ h => h) (Or.inl ⟨by rfl, ?_⟩) hHeld ?_
          rotate_left
          · (intro w hSw; (try dsimp only at hSw); go_simp; try with_reducible rfl)
          try go_frame
          refine wpAnyH_takeL (i := 5) (v := ?_) rfl (by kernel_rfl) (by kernel_rfl) (by kernel_rfl) (fun _ _ _ h => h) (Or.inl ⟨by rfl, ?_⟩) hHeld ?_
          rotate_left
          · (intro w hSw; (try dsimp only at hSw); go_simp; try with_reducible rfl)
          try go_frame
          refine wpAnyH_takeL (i := 6) (v := ?_) rfl (by kernel_rfl) (by kernel_rfl) (by kernel_rfl) (fun _ _ _ h => h) (Or.inl ⟨by rfl, ?_⟩) hHeld ?_
          rotate_left
          · (intro w hSw; (try dsimp only at hSw); go_simp; try with_reducible rfl)
          try go_frame
          refine wpAnyH_takeL (i := 7) (v := ?_) rfl (by kernel_rfl) (by kernel_rfl) (by kernel_rfl) (fun _ _ _ h => h) (Or.inl ⟨by rfl, ?_⟩) hHeld ?_
          rotate_left
          · (intro w hSw; (try dsimp only at hSw); go_simp; try with_reducible rfl)
          try go_frame
          refine wpAnyH_takeL (i := 8) (v := ?_) rfl (by kernel_rfl) (by kernel_rfl) (by kernel_rfl) (fun _ _ _ h => h) (Or.inl ⟨by rfl, ?_⟩) hHeld ?_
          rotate_left
          · (intro w hSw; (try dsimp only at hSw); go_simp; try with_reducible rfl)
          try go_frame
          refine wpAnyH_ready (rs := [9]) (by kernel_rfl) (by simp) ?_
          refine consL rfl (fun K hK => ?_) AllReadyH.nil
          go_simp
          refine (implLess s' t' s t q' d' m' q d m _).mono ?_
          rintro e w9 ⟨rfl, b9⟩
          have k9 : Below wr.heap.size wr w9 := k0.trans (b9.mono k0.size)
          go_wp2_with fail
          refine hK.out _ _ (HMK.out _ k9) (fun hHeld => ?_)
          clear hK K
          try go_frame
          refine wpAnyH_takeL (i := 10) (v := ?_) rfl (by kernel_rfl) (by kernel_rfl) (by kernel_rfl) (fun _ _ _ h => h) (Or.inl ⟨by rfl, ?_⟩) hHeld ?_
          rotate_left
          · (intro w hSw; (try dsimp only at hSw); go_simp; try with_reducible rfl)
          try go_frame
          refine wpAnyH_done (by kernel_rfl) ?_ _
          clear HMK hHeld
          have HB9 : Hid (Below wo.heap.size wo w9) := HBQ.out.trans (k9.mono HBQ.out.size)
          clear k0 k9 b9
          go_wp2
          go_roundw
          case rel => exact ⟨i + 1, by omega, by omega, by go_num, HB9.out⟩
          case measure => simp [intOf]; omega
        · have hinI : ¬ (i : Int) < (nf : Int) := by omega
          have HT5 : Hid (PartsOwn wr w4.heap.size g n c0 P.reverse vs' none) := HT1.out.below HBQ.out
          have HO5 : Hid (EntsAt wr (some ⟨gf, 0, none⟩) nf nf F) := HO4.out.keep HB5.out
          obtain rfl : s0 = nf := HSN.out
          have CR := CI.out P.reverse g n c0 wr (rev_flat P) hn HT5.out.partsAt
          clear HSN
          go_wp2_with fail
          refine CR.mono ?_
          rintro e w6 ⟨g6, rfl, hO6, hb6⟩
          have HO6 : Hid (EntsAt w6 (some ⟨gf, 0, none⟩) s0 s0 F) := HO5.out.keep hb6
          have HX6 : Hid (EntsAt w6 (some ⟨g6, 0, none⟩) s0 s0 F) := hO6.entsAt
          have HB6 : Hid (Below w4.heap.size w4 w6) := HB5.out.trans (hb6.mono HB5.out.size)
          clear hO6 hb6 CR HO5 HT5
          go_wp2_with fail
          refine (wpEnts_any _ _ _ _ _ _ F F w6 HX6.out HO6.out).mono ?_
          rintro e w7 ⟨rfl, hb7⟩
          rw [decide_eq_true rfl]
          have HO7 : Hid (EntsAt w7 (some ⟨gf, 0, none⟩) s0 s0 F) := HO6.out.keep hb7
          have HB7 : Hid (Below w4.heap.size w4 w7) := HB6.out.trans (hb7.mono HB6.out.size)
          clear hb7 HO6 HX6 HB6
          have CA := CI.out [F] w7.heap.size 1 1 (w7.alloc (.cells #[.slice (some ⟨gf, 0, none⟩) s0 s0] 24)) (by rw [HF.out]; simpa using (sort_both P.flatten).2) (by omega) (parts_one w7 _ _ _ F HO7.out)
          have HBA : Hid (Below w7.heap.size w7 (w7.alloc (.cells #[.slice (some ⟨gf, 0, none⟩) s0 s0] 24))) := (Below.refl _ _).alloc (Nat.le_refl _) _
          go_wp2_with fail
          refine CA.mono ?_
          rintro e w8 ⟨g8, rfl, hO8, hb8⟩
          have hb78 : Below w7.heap.size w7 w8 := HBA.out.trans (hb8.mono HBA.out.size)
          have HO8 : Hid (EntsAt w8 (some ⟨gf, 0, none⟩) s0 s0 F) := HO7.out.keep hb78
          have HX8 : Hid (EntsAt w8 (some ⟨g8, 0, none⟩) s0 s0 F) := hO8.entsAt
          have HB8 : Hid (Below w4.heap.size w4 w8) := HB7.out.trans (hb78.mono HB7.out.size)
          clear hO8 hb8 CA HO7 HBA hb78
          go_wp2_with fail
          refine (wpEnts_any _ _ _ _ _ _ F F w8 HX8.out HO8.out).mono ?_
          rintro e w9 ⟨rfl, hb9⟩
          rw [decide_eq_true rfl]
          have HB9 : Hid (Below w4.heap.size w4 w9) := HB8.out.trans (hb9.mono HB8.out.size)
          clear hb9 HB8
          go_wp2
          go_ret
          exact ⟨rfl, HB4.out.trans (HB9.out.mono HB4.out.size)⟩
    · obtain ⟨k, hk⟩ : ∃ k, m = k + 1 := ⟨m - 1, by omega⟩
      subst hk
      obtain rfl : i = (k : Int) := by omega
      have hkn : (k : Int) < (n : Int) := by omega
      have hk0 : (0 : Int) ≤ (k : Int) := by omega
      clear hie
      obtain ⟨L, hL⟩ : ∃ L, P[k]? = some L := ⟨_, List.getElem?_eq_getElem (by rw [HPN.out]; omega)⟩
      obtain ⟨sl, len, cap, cG, hE⟩ := (HP4.out.below HB.out).ents hL
      have HL : Hid (P[k]? = some L) := hL
      have hLl := hE.length
      have HLL : Hid (L.length = len) := hLl
      have hdl := drop_len hL
      have hlen : s0 + len ≤ 16 := by
        have h1 := drop_le P k
        have h2 := HS0.out
        rw [HNF.out] at h1
        omega
      have HS1 : Hid (s0 + len = (P.drop k).flatten.length) := by have h2 := HS0.out; show _ = _; omega
      have wl : IntKind.i64.wrap ((s0 : Int) + (len : Int)) = ((s0 + len : Nat) : Int) := by rw [IntKind.wrap_i64]; omega
      have zG : G < wo.heap.size := Nat.lt_of_lt_of_le HGG.out HB.out.size
      have HEL : Hid (EntsAt wo sl len cap L) := hE
      have hlr := hE.room
      have hlc := hE.big
      unfold maxLen at hlc
      have hw4 := HB.out.size
      clear hL hE hLl hdl
      go_wp2_with (at_builtin; refine wpList_append_own_at _ rfl _ _ 26 rfl w4.heap.size 24 i0 _ 1 24 Try.underlying26 hi hz0 hz1 hz2 rfl (by decide) _ _ _ rfl (HT.out.owns.alloc _) ⟨wo.heap.size, 0, none⟩ 1 1 [Value.slice sl len cap] rfl rfl (cell_one_new _ _ _) (by simp [Value.oneCell']) (by unfold maxLen; omega) (by omega) (by simp; omega) ?_; intro v2 W hown2 hgrow2 hnil2 hat2; obtain ⟨g2, c2, rfl⟩ := ownsRow_succ' hown2)
      have ka : Below wo.heap.size wo (wo.alloc (.cells #[.slice sl len cap] 24)) := (Below.refl _ _).alloc (Nat.le_refl _) _
      have hgr : (wo.alloc (.cells #[.slice sl len cap] 24)).grownBy W (some g) := hgrow2
      have HTW : Hid (PartsOwn W w4.heap.size g2 (n - (k + 1) + 1) c2 ((P.drop k).reverse) (vs' ++ [Value.slice sl len cap]) none) := by
        have hP2 := (HT.out.below ka).push (A := L) hown2 hgr (by
          rcases hat2 with h | h
          · exact .inl (Option.some.inj h)
          · exact .inr (Option.some.inj h)) (HEL.out.keep ka) (fun x e hp => by
            obtain ⟨s1, m1, d1, c1, hE1⟩ := HP4.out.ents HL.out
            have hc := cell_later HB.out c1
            rw [cG] at hc
            cases hc
            have h1 := (hE1.lies x e hp).1
            have h2 := HT.out.lt.1
            omega)
        show PartsOwn W _ _ _ _ _ _ _
        rw [drop_rev HL.out]
        exact hP2
      have HBW : Hid (Below w4.heap.size w4 W) := (HB.out.alloc (by omega) _).grown hgr (by simp; omega) (fun j e => by cases e; exact HT.out.lt.1)
      have hn1 : n - (k + 1) + 1 = n - k := by omega
      rw [hn1] at HTW ⊢
      clear hown2 hgrow2 hnil2 hat2 ka hgr HT HB HEL zG hn1 cG wl hw4
      obtain ⟨sl', len', cap', cW, hEW⟩ := (HP4.out.below HBW.out).ents HL.out
      have HEP : Hid (∀ w', Below W.heap.size W w' → w'.cell? ⟨G, k, none⟩ = some (.slice sl' len' cap') ∧ EntsAt w' sl' len' cap' L) := fun w' kk => ⟨cell_later kk cW, hEW.keep kk⟩
      obtain rfl : len' = len := by have h1 := hEW.length; have h2 := HLL.out; omega
      have HOW : Hid (EntsAt W (some ⟨gf, 0, none⟩) nf nf F) := HO4.out.keep HBW.out
      have HGW : Hid (gf < W.heap.size ∧ G < W.heap.size) := ⟨Nat.lt_of_lt_of_le HG4.out HBW.out.size, Nat.lt_of_lt_of_le HGG.out HBW.out.size⟩
      clear cW hEW
      go_loopw [8] (fun kv wq => ∃ kk : Nat, kk ≤ len' ∧ kv = .int .i64 kk ∧ Below W.heap.size W wq) (fun kv _ => len' - (intOf kv).toNat)
      case atStart => exact ⟨0, Nat.zero_le _, rfl, Below.refl _ _⟩
      case round =>
        obtain ⟨kk, hkl, rfl, hbq⟩ := hrel
        have HBQ : Hid (Below W.heap.size W wr) := hbq
        obtain ⟨cG, hE⟩ := HEP.out wr hbq
        have zG : G < wr.heap.size := Nat.lt_of_lt_of_le HGW.out.2 hbq.size
        clear hbq
        by_cases hkl2 : kk < len'
        · have hklI : (kk : Int) < (len' : Int) := by omega
          obtain ⟨bl, ol, rfl, zl⟩ := hE.form (by omega)
          obtain ⟨s, q, d, t, m, hx, _, _⟩ := hE.ent (Below.refl _ wr) zl kk hkl2
          have HX : Hid (L[kk]? = some (s, q, d, t, m)) := hx
          have HIN : Hid ((s, q, d, t, m) ∈ F) := (HFM.out _).2 (List.mem_flatten.2 ⟨L, List.mem_of_getElem? HL.out, List.mem_of_getElem? hx⟩)
          clear hx hE zl
          go_wp2
          clear cG zG
          go_loopw [9, 10] (fun hv jv wq => ∃ (j : Nat) (b : Bool), j ≤ nf ∧ jv = .int .i64 j ∧ b = hasB F (s, q, d, t, m) j ∧ hv = .bool b ∧ Below W.heap.size W wq) (fun _ jv _ => nf - (intOf jv).toNat)
          case atStart => exact ⟨0, false, Nat.zero_le _, rfl, (hasB_zero _ _).symm, rfl, HBQ.out⟩
          case round =>
            clear HBQ
            obtain ⟨j, b, hj, rfl, hb, rfl, hbq⟩ := hrel
            have HHB : Hid (b = hasB F (s, q, d, t, m) j) := hb
            have HBQ : Hid (Below W.heap.size W wr) := hbq
            obtain ⟨cG, hE⟩ := HEP.out wr hbq
            have zG : G < wr.heap.size := Nat.lt_of_lt_of_le HGW.out.2 hbq.size
            have zf : gf < wr.heap.size := Nat.lt_of_lt_of_le HGW.out.1 hbq.size
            clear hb hbq
            have k0 : Below wr.heap.size wr wr.drew := (Below.refl _ wr).drew
            by_cases hjn : j < nf
            · have hjnI : (j : Int) < (nf : Int) := by omega
              obtain ⟨s', q', d', t', m', hy, _, e0, e1, e2, e3, e4⟩ := HOW.out.ent HBQ.out HGW.out.1 j hjn
              simp only [Nat.zero_add] at e0 e1 e2 e3 e4
              have HST := hasB_succ (e := (s, q, d, t, m)) hy
              rw [← HHB.out] at HST
              have HSU : Hid (hasB F (s, q, d, t, m) (j + 1) = (b || decide (((s', q', d', t', m') : EntD) = (s, q, d, t, m)))) := HST
              clear HST hy
              cases b with
              | true =>
                have HMK : Hid (∀ w', Below wr.heap.size wr w' → True) := fun _ _ => trivial
                clear e0 e1 e2 e3 e4 hE cG
                go_wp2_with fail
                refine wp_region_held_drew (S := (fun w' => True)) (by kernel_rfl) (HMK.out _ k0) (fun hHeld => ?_)
                refine wpAnyH_takeL (i := 0) (v := ?_) rfl (by kernel_rfl) (by kernel_rfl) (by kernel_rfl) (fun _ _ _ h => h) (Or.inl ⟨by rfl, ?_⟩) hHeld ?_
                rotate_left
                · (intro w hSw; (try dsimp only at hSw); go_simp; try with_reducible rfl)
                try go_frame
                refine wpAnyH_takeL (i := 1) (v := ?_) rfl (by kernel_rfl) (by kernel_rfl) (by kernel_rfl) (fun _ _ _ h => h) (Or.inl ⟨by rfl, ?_⟩) hHeld ?_
                rotate_left
                · (intro w hSw; (try dsimp only at hSw); go_simp; try with_reducible rfl)
                try go_frame
                refine wpAnyH_takeL (i := 2) (v := undef) rfl (by kernel_rfl) (by kernel_rfl) (by kernel_rfl) (fun _ _ _ h => h) (Or.inr ⟨by rfl, rfl⟩) hHeld ?_
                try go_frame
                refine wpAnyH_takeL (i := 3) (v := undef) rfl (by kernel_rfl) (by kernel_rfl) (by kernel_rfl) (fun _ _ _ h => h) (Or.inr ⟨by rfl, rfl⟩) hHeld ?_
                try go_frame
                refine wpAnyH_takeL (i := 4) (v := undef) rfl (by kernel_rfl) (by kernel_rfl) (by kernel_rfl) (fun _ _ _ h => h) (Or.inr ⟨by rfl, rfl⟩) hHeld ?_
                try go_frame
                refine wpAnyH_takeL (i := 5) (v := undef) rfl (by kernel_rfl) (by kernel_rfl) (by kernel_rfl) (fun _ _ _ h => h) (Or.inr ⟨by rfl, rfl⟩) hHeld ?_
                try go_frame
                refine wpAnyH_takeL (i := 6) (v := undef) rfl (by kernel_rfl) (by kernel_rfl) (by kernel_rfl) (fun _ _ _ h => h) (Or.inr ⟨by rfl, rfl⟩) hHeld ?_
                try go_frame
                refine wpAnyH_takeL (i := 7) (v := undef) rfl (by kernel_rfl) (by kernel_rfl) (by kernel_rfl) (fun _ _ _ h => h) (Or.inr ⟨by rfl, rfl⟩) hHeld ?_
                try go_frame
                refine wpAnyH_takeL (i := 8) (v := undef) rfl (by kernel_rfl) (by kernel_rfl) (by kernel_rfl) (fun _ _ _ h => h) (Or.inr ⟨by rfl, rfl⟩) hHeld ?_
                try go_frame
                refine wpAnyH_takeL (i := 9) (v := undef) rfl (by kernel_rfl) (by kernel_rfl) (by kernel_rfl) (fun _ _ _ h => h) (Or.inr ⟨by rfl, rfl⟩) hHeld ?_
                try go_frame
                refine wpAnyH_takeL (i := 10) (v := undef) rfl (by kernel_rfl) (by kernel_rfl) (by kernel_rfl) (fun _ _ _ h => h) (Or.inr ⟨by rfl, rfl⟩) hHeld ?_
                try go_frame
                refine wpAnyH_takeL (i := 11) (v := undef) rfl (by kernel_rfl) (by kernel_rfl) (by kernel_rfl) (fun _ _ _ h => h) (Or.inr ⟨by rfl, rfl⟩) hHeld ?_
                try go_frame
                refine wpAnyH_takeL (i := 12) (v := undef) rfl (by kernel_rfl) (by kernel_rfl) (by kernel_rfl) (fun _ _ _ h => h) (Or.inr ⟨by rfl, rfl⟩) hHeld ?_
                try go_frame
                refine wpAnyH_takeL (i := 13) (v := undef) rfl (by kernel_rfl) (by kernel_rfl) (by kernel_rfl) (fun _ _ _ h => h) (Or.inr ⟨by rfl, rfl⟩) hHeld ?_
                try go_frame
                refine wpAnyH_takeL (i := 14) (v := ?_) rfl (by kernel_rfl) (by kernel_rfl) (by kernel_rfl) (fun _ _ _ h => h) (Or.inl ⟨by rfl, ?_⟩) hHeld ?_
                rotate_left
                · (intro w hSw; (try dsimp only at hSw); go_simp; try with_reducible rfl)
                try go_frame
                refine wpAnyH_takeL (i := 15) (v := ?_) rfl (by kernel_rfl) (by kernel_rfl) (by kernel_rfl) (fun _ _ _ h => h) (Or.inl ⟨by rfl, ?_⟩) hHeld ?_
                rotate_left
                · (intro w hSw; (try dsimp only at hSw); go_simp; try with_reducible rfl)
                try go_frame
                refine wpAnyH_done (by kernel_rfl) ?_ _
                clear HMK hHeld
                go_wp2
                go_roundw
                case rel => exact ⟨j + 1, true, by omega, by go_num, by rw [HSU.out, Bool.true_or], rfl, HBQ.out.trans (k0.mono HBQ.out.size)⟩
                case measure => simp [intOf]; omega
              | false =>
                have zl : bl < wr.heap.size := (hE.lies _ rfl (by omega)).1
                obtain ⟨s1, q1, d1, t1, m1, hx, _, g0, g1, g2, g3, g4⟩ := hE.ent (Below.refl _ wr) zl kk hkl2
                rw [HX.out] at hx
                cases hx
                have HMK : Hid (∀ w', Below wr.heap.size wr w' → (w'.cell? ⟨G, k, none⟩ = some (.slice (some ⟨bl, ol, none⟩) len' cap') ∧ w'.cell? ⟨gf, j * 5, none⟩ = some (.string s') ∧ w'.cell? ⟨gf, j * 5 + 1, none⟩ = some (.int .i64 q') ∧ w'.cell? ⟨gf, j * 5 + 2, none⟩ = some (.int .i64 d') ∧ w'.cell? ⟨gf, j * 5 + 3, none⟩ = some (.string t') ∧ w'.cell? ⟨gf, j * 5 + 4, none⟩ = some (.int .i64 m') ∧ w'.cell? ⟨bl, ol + kk * 5, none⟩ = some (.string s) ∧ w'.cell? ⟨bl, ol + kk * 5 + 1, none⟩ = some (.int .i64 q) ∧ w'.cell? ⟨bl, ol + kk * 5 + 2, none⟩ = some (.int .i64 d) ∧ w'.cell? ⟨bl, ol + kk * 5 + 3, none⟩ = some (.string t) ∧ w'.cell? ⟨bl, ol + kk * 5 + 4, none⟩ = some (.int .i64 m) ∧ G < w'.heap.size ∧ gf < w'.heap.size ∧ bl < w'.heap.size)) := fun w' kk => ⟨cell_later kk cG, cell_later kk e0, cell_later kk e1, cell_later kk e2, cell_later kk e3, cell_later kk e4, cell_later kk g0, cell_later kk g1, cell_later kk g2, cell_later kk g3, cell_later kk g4, Nat.lt_of_lt_of_le zG kk.size, Nat.lt_of_lt_of_le zf kk.size, Nat.lt_of_lt_of_le zl kk.size⟩
                clear e0 e1 e2 e3 e4 g0 g1 g2 g3 g4 hE cG
                by_cases hl : ((s', q', d', t', m') : EntD) = (s, q, d, t, m)
                · cases hl
                  have heq := eql_ent_same s t q d m
                  go_wp2_with fail
                  refine wp_region_held_drew (S := (fun w' => w'.cell? ⟨G, k, none⟩ = some (.slice (some ⟨bl, ol, none⟩) len' cap') ∧ w'.cell? ⟨gf, j * 5, none⟩ = some (.string s) ∧ w'.cell? ⟨gf, j * 5 + 1, none⟩ = some (.int .i64 q) ∧ w'.cell? ⟨gf, j * 5 + 2, none⟩ = some (.int .i64 d) ∧ w'.cell? ⟨gf, j * 5 + 3, none⟩ = some (.string t) ∧ w'.cell? ⟨gf, j * 5 + 4, none⟩ = some (.int .i64 m) ∧ w'.cell? ⟨bl, ol + kk * 5, none⟩ = some (.string s) ∧ w'.cell? ⟨bl, ol + kk * 5 + 1, none⟩ = some (.int .i64 q) ∧ w'.cell? ⟨bl, ol + kk * 5 + 2, none⟩ = some (.int .i64 d) ∧ w'.cell? ⟨bl, ol + kk * 5 + 3, none⟩ = some (.string t) ∧ w'.cell? ⟨bl, ol + kk * 5 + 4, none⟩ = some (.int .i64 m) ∧ G < w'.heap.size ∧ gf < w'.heap.size ∧ bl < w'.heap.size)) (by kernel_rfl) (HMK.out _ k0) (fun hHeld => ?_)
                  refine wpAnyH_takeL (i := 0) (v := ?_) rfl (by kernel_rfl) (by kernel_rfl) (by kernel_rfl) (fun _ _ _ h => h) (Or.inl ⟨by rfl, ?_⟩) hHeld ?_
                  rotate_left
                  · (intro w hSw; (try dsimp only at hSw); go_simp; try with_reducible rfl)
                  try go_frame
                  refine wpAnyH_takeL (i := 1) (v := ?_) rfl (by kernel_rfl) (by kernel_rfl) (by kernel_rfl) (fun _ _ _ h => h) (Or.inl ⟨by rfl, ?_⟩) hHeld ?_
                  rotate_left
                  · (intro w hSw; (try dsimp only at hSw); go_simp; try with_reducible rfl)
                  try go_frame
                  refine wpAnyH_takeL (i := 2) (v := ?_) rfl (by kernel_rfl) (by kernel_rfl) (by kernel_rfl) (fun _ _ _ h => h) (Or.inl ⟨by rfl, ?_⟩) hHeld ?_
                  rotate_left
                  · (intro w hSw; (try dsimp only at hSw); go_simp; try with_reducible rfl)
                  try go_frame
                  refine wpAnyH_takeL (i := 3) (v := ?_) rfl (by kernel_rfl) (by kernel_rfl) (by kernel_rfl) (fun _ _ _ h => h) (Or.inl ⟨by rfl, ?_⟩) hHeld ?_
                  rotate_left
                  · (intro w hSw; (try dsimp only at hSw); go_simp; try with_reducible rfl)
                  try go_frame
                  refine wpAnyH_takeL (i := 4) (v := ?_) rfl (by kernel_rfl) (by kernel_rfl) (by kernel_rfl) (fun _ _ _ h => h) (Or.inl ⟨by rfl, ?_⟩) hHeld ?_
                  rotate_left
                  · (intro w hSw; (try dsimp only at hSw); go_simp; try with_reducible rfl)
                  try go_frame
                  refine wpAnyH_takeL (i := 5) (v := ?_) rfl (by kernel_rfl) (by kernel_rfl) (by kernel_rfl) (fun _ _ _ h => h) (Or.inl ⟨by rfl, ?_⟩) hHeld ?_
                  rotate_left
                  · (intro w hSw; (try dsimp only at hSw); go_simp; try with_reducible rfl)
                  try go_frame
                  refine wpAnyH_takeL (i := 6) (v := ?_) rfl (by kernel_rfl) (by kernel_rfl) (by kernel_rfl) (fun _ _ _ h => h) (Or.inl ⟨by rfl, ?_⟩) hHeld ?_
                  rotate_left
                  · (intro w hSw; (try dsimp only at hSw); go_simp; try with_reducible rfl)
                  try go_frame
                  refine wpAnyH_takeL (i := 7) (v := ?_) rfl (by kernel_rfl) (by kernel_rfl) (by kernel_rfl) (fun _ _ _ h => h) (Or.inl ⟨by rfl, ?_⟩) hHeld ?_
                  rotate_left
                  · (intro w hSw; (try dsimp only at hSw); go_simp; try with_reducible rfl)
                  try go_frame
                  refine wpAnyH_takeL (i := 8) (v := ?_) rfl (by kernel_rfl) (by kernel_rfl) (by kernel_rfl) (fun _ _ _ h => h) (Or.inl ⟨by rfl, ?_⟩) hHeld ?_
                  rotate_left
                  · (intro w hSw; (try dsimp only at hSw); go_simp; try with_reducible rfl)
                  try go_frame
                  refine wpAnyH_takeL (i := 9) (v := ?_) rfl (by kernel_rfl) (by kernel_rfl) (by kernel_rfl) (fun _ _ _ h => h) (Or.inl ⟨by rfl, ?_⟩) hHeld ?_
                  rotate_left
                  · (intro w hSw; (try dsimp only at hSw); go_simp; try with_reducible rfl)
                  try go_frame
                  refine wpAnyH_takeL (i := 10) (v := ?_) rfl (by kernel_rfl) (by kernel_rfl) (by kernel_rfl) (fun _ _ _ h => h) (Or.inl ⟨by rfl, ?_⟩) hHeld ?_
                  rotate_left
                  · (intro w hSw; (try dsimp only at hSw); go_simp; try with_reducible rfl)
                  try go_frame
                  refine wpAnyH_takeL (i := 11) (v := ?_) rfl (by kernel_rfl) (by kernel_rfl) (by kernel_rfl) (fun _ _ _ h => h) (Or.inl ⟨by rfl, ?_⟩) hHeld ?_
                  rotate_left
                  · (intro w hSw; (try dsimp only at hSw); go_simp; try with_reducible rfl)
                  try go_frame
                  refine wpAnyH_takeL (i := 12) (v := ?_) rfl (by kernel_rfl) (by kernel_rfl) (by kernel_rfl) (fun _ _ _ h => h) (Or.inl ⟨by rfl, ?_⟩) hHeld ?_
                  rotate_left
                  · (intro w hSw; (try dsimp only at hSw); go_simp; try with_reducible rfl)
                  try go_frame
                  refine wpAnyH_takeL (i := 13) (v := ?_) rfl (by kernel_rfl) (by kernel_rfl) (by kernel_rfl) (fun _ _ _ h => h) (Or.inl ⟨by rfl, ?_⟩) hHeld ?_
                  rotate_left
                  · (intro w hSw; (try dsimp only at hSw); go_simp; try with_reducible rfl)
                  try go_frame
                  refine wpAnyH_takeL (i := 14) (v := ?_) rfl (by kernel_rfl) (by kernel_rfl) (by kernel_rfl) (fun _ _ _ h => h) (Or.inl ⟨by rfl, ?_⟩) hHeld ?_
                  rotate_left
                  · (intro w hSw; (try dsimp only at hSw); go_simp; try with_reducible rfl)
                  try go_frame
                  refine wpAnyH_takeL (i := 15) (v := ?_) rfl (by kernel_rfl) (by kernel_rfl) (by kernel_rfl) (fun _ _ _ h => h) (Or.inl ⟨by rfl, ?_⟩) hHeld ?_
                  rotate_left
                  · (intro w hSw; (try dsimp only at hSw); go_simp; try with_reducible rfl)
                  try go_frame
                  refine wpAnyH_done (by kernel_rfl) ?_ _
                  clear HMK hHeld
                  go_wp2
                  go_roundw
                  case rel => exact ⟨j + 1, true, by omega, by go_num, by rw [HSU.out]; simp, rfl, HBQ.out.trans (k0.mono HBQ.out.size)⟩
                  case measure => simp [intOf]; omega
                · have heq := fun w => eql_ent_diff s' t' q' d' m' s t q d m w hl
                  have HDF : Hid (decide (((s', q', d', t', m') : EntD) = (s, q, d, t, m)) = false) := decide_eq_false hl
                  clear hl
                  go_wp2_with fail
                  refine wp_region_held_drew (S := (fun w' => w'.cell? ⟨G, k, none⟩ = some (.slice (some ⟨bl, ol, none⟩) len' cap') ∧ w'.cell? ⟨gf, j * 5, none⟩ = some (.string s') ∧ w'.cell? ⟨gf, j * 5 + 1, none⟩ = some (.int .i64 q') ∧ w'.cell? ⟨gf, j * 5 + 2, none⟩ = some (.int .i64 d') ∧ w'.cell? ⟨gf, j * 5 + 3, none⟩ = some (.string t') ∧ w'.cell? ⟨gf, j * 5 + 4, none⟩ = some (.int .i64 m') ∧ w'.cell? ⟨bl, ol + kk * 5, none⟩ = some (.string s) ∧ w'.cell? ⟨bl, ol + kk * 5 + 1, none⟩ = some (.int .i64 q) ∧ w'.cell? ⟨bl, ol + kk * 5 + 2, none⟩ = some (.int .i64 d) ∧ w'.cell? ⟨bl, ol + kk * 5 + 3, none⟩ = some (.string t) ∧ w'.cell? ⟨bl, ol + kk * 5 + 4, none⟩ = some (.int .i64 m) ∧ G < w'.heap.size ∧ gf < w'.heap.size ∧ bl < w'.heap.size)) (by kernel_rfl) (HMK.out _ k0) (fun hHeld => ?_)
                  refine wpAnyH_takeL (i := 0) (v := ?_) rfl (by kernel_rfl) (by kernel_rfl) (by kernel_rfl) (fun _ _ _ h => h) (Or.inl ⟨by rfl, ?_⟩) hHeld ?_
                  rotate_left
                  · (intro w hSw; (try dsimp only at hSw); go_simp; try with_reducible rfl)
                  try go_frame
                  refine wpAnyH_takeL (i := 1) (v := ?_) rfl (by kernel_rfl) (by kernel_rfl) (by kernel_rfl) (fun _ _ _ h => h) (Or.inl ⟨by rfl, ?_⟩) hHeld ?_
                  rotate_left
                  · (intro w hSw; (try dsimp only at hSw); go_simp; try with_reducible rfl)
                  try go_frame
                  refine wpAnyH_takeL (i := 2) (v := ?_) rfl (by kernel_rfl) (by kernel_rfl) (by kernel_rfl) (fun _ _ _ h => h) (Or.inl ⟨by rfl, ?_⟩) hHeld ?_
                  rotate_left
                  · (intro w hSw; (try dsimp only at hSw); go_simp; try with_reducible rfl)
                  try go_frame
                  refine wpAnyH_takeL (i := 3) (v := ?_) rfl (by kernel_rfl) (by kernel_rfl) (by kernel_rfl) (fun _ _ _ h => h) (Or.inl ⟨by rfl, ?_⟩) hHeld ?_
                  rotate_left
                  · (intro w hSw; (try dsimp only at hSw); go_simp; try with_reducible rfl)
                  try go_frame
                  refine wpAnyH_takeL (i := 4) (v := ?_) rfl (by kernel_rfl) (by kernel_rfl) (by kernel_rfl) (fun _ _ _ h => h) (Or.inl ⟨by rfl, ?_⟩) hHeld ?_
                  rotate_left
                  · (intro w hSw; (try dsimp only at hSw); go_simp; try with_reducible rfl)
                  try go_frame
                  refine wpAnyH_takeL (i := 5) (v := ?_) rfl (by kernel_rfl) (by kernel_rfl) (by kernel_rfl) (fun _ _ _ h => h) (Or.inl ⟨by rfl, ?_⟩) hHeld ?_
                  rotate_left
                  · (intro w hSw; (try dsimp only at hSw); go_simp; try with_reducible rfl)
                  try go_frame
                  refine wpAnyH_takeL (i := 6) (v := ?_) rfl (by kernel_rfl) (by kernel_rfl) (by kernel_rfl) (fun _ _ _ h => h) (Or.inl ⟨by rfl, ?_⟩) hHeld ?_
                  rotate_left
                  · (intro w hSw; (try dsimp only at hSw); go_simp; try with_reducible rfl)
                  try go_frame
                  refine wpAnyH_takeL (i := 7) (v := ?_) rfl (by kernel_rfl) (by kernel_rfl) (by kernel_rfl) (fun _ _ _ h => h) (Or.inl ⟨by rfl, ?_⟩) hHeld ?_
                  rotate_left
                  · (intro w hSw; (try dsimp only at hSw); go_simp; try with_reducible rfl)
                  try go_frame
                  refine wpAnyH_takeL (i := 8) (v := ?_) rfl (by kernel_rfl) (by kernel_rfl) (by kernel_rfl) (fun _ _ _ h => h) (Or.inl ⟨by rfl, ?_⟩) hHeld ?_
                  rotate_left
                  · (intro w hSw; (try dsimp only at hSw); go_simp; try with_reducible rfl)
                  try go_frame
                  refine wpAnyH_takeL (i := 9) (v := ?_) rfl (by kernel_rfl) (by kernel_rfl) (by kernel_rfl) (fun _ _ _ h => h) (Or.inl ⟨by rfl, ?_⟩) hHeld ?_
                  rotate_left
                  · (intro w hSw; (try dsimp only at hSw); go_simp; try with_reducible rfl)
                  try go_frame
                  refine wpAnyH_takeL (i := 10) (v := ?_) rfl (by kernel_rfl) (by kernel_rfl) (by kernel_rfl) (fun _ _ _ h => h) (Or.inl ⟨by rfl, ?_⟩) hHeld ?_
                  rotate_left
                  · (intro w hSw; (try dsimp only at hSw); go_simp; try with_reducible rfl)
                  try go_frame
                  refine wpAnyH_takeL (i := 11) (v := ?_) rfl (by kernel_rfl) (by kernel_rfl) (by kernel_rfl) (fun _ _ _ h => h) (Or.inl ⟨by rfl, ?_⟩) hHeld ?_
                  rotate_left
                  · (intro w hSw; (try dsimp only at hSw); go_simp; try with_reducible rfl)
                  try go_frame
                  refine wpAnyH_takeL (i := 12) (v := ?_) rfl (by kernel_rfl) (by kernel_rfl) (by kernel_rfl) (fun _ _ _ h => h) (Or.inl ⟨by rfl, ?_⟩) hHeld ?_
                  rotate_left
                  · (intro w hSw; (try dsimp only at hSw); go_simp; try with_reducible rfl)
                  try go_frame
                  refine wpAnyH_takeL (i := 13) (v := ?_) rfl (by kernel_rfl) (by kernel_rfl) (by kernel_rfl) (fun _ _ _ h => h) (Or.inl ⟨by rfl, ?_⟩) hHeld ?_
                  rotate_left
                  · (intro w hSw; (try dsimp only at hSw); go_simp; try with_reducible rfl)
                  try go_frame
                  refine wpAnyH_takeL (i := 14) (v := ?_) rfl (by kernel_rfl) (by kernel_rfl) (by kernel_rfl) (fun _ _ _ h => h) (Or.inl ⟨by rfl, ?_⟩) hHeld ?_
                  rotate_left
                  · (intro w hSw; (try dsimp only at hSw); go_simp; try with_reducible rfl)
                  try go_frame
                  refine wpAnyH_takeL (i := 15) (v := ?_) rfl (by kernel_rfl) (by kernel_rfl) (by kernel_rfl) (fun _ _ _ h => h) (Or.inl ⟨by rfl, ?_⟩) hHeld ?_
                  rotate_left
                  · (intro w hSw; (try dsimp only at hSw); go_simp; try with_reducible rfl)
                  try go_frame
                  refine wpAnyH_done (by kernel_rfl) ?_ _
                  clear HMK hHeld
                  go_wp2
                  go_roundw
                  case rel => exact ⟨j + 1, false, by omega, by go_num, by rw [HSU.out, HDF.out]; rfl, rfl, HBQ.out.trans (k0.mono HBQ.out.size)⟩
                  case measure => simp [intOf]; omega
            · have hjnI : ¬ (j : Int) < (nf : Int) := by omega
              have hbt : b = true := by
                rw [HHB.out, show j = nf by omega]
                exact hasB_all HIN.out HFL.out
              subst hbt
              clear hE cG
              go_wp2
              go_roundw
              case rel => exact ⟨kk + 1, by omega, by go_num, HBQ.out⟩
              case measure => simp [intOf]; omega
        · have hklI : ¬ (kk : Int) < (len' : Int) := by omega
          have HTQ : Hid (PartsOwn wr w4.heap.size g2 (n - k) c2 ((P.drop k).reverse) (vs' ++ [Value.slice sl len' cap]) none) := HTW.out.below HBQ.out
          have HB8 : Hid (Below w4.heap.size w4 wr) := HBW.out.trans (HBQ.out.mono HBW.out.size)
          have wk : IntKind.i64.wrap ((k : Int) - 1) = (k : Int) - 1 := by rw [IntKind.wrap_i64]; omega
          clear hE
          go_wp2
          go_roundw
          case rel => exact ⟨k, s0 + len', g2, c2, _, (k : Int) - 1, by omega, rfl, by first | rfl | go_num, HS1.out, by first | rfl | go_num, rfl, HTQ.out, HB8.out⟩
          case measure => simp [intOf]
end Go.Proofs.Ytkdalacclafihaa
