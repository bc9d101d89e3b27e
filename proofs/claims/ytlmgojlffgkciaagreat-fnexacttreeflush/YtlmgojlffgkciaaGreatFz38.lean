/-
  The library's Concat at numbers, by a walk of its Go text.
  The library's Grow and Concat at runs, by walks of their Go text.
  What a flush makes of a right tree: plain facts; and runs by their cells, kept where other blocks are written.
-/
import Derived.Lib.AppendZerosOnto
import Derived.Lib.AppendZeros
import Derived.Test.YtlmgojlffgkciaaGreatFz08
import Derived.Test.YtlmgojlffgkciaaGreatFz09
import Derived.Test.YtlmgojlffgkciaaGreatFz37
import Derived.Laws.AppendOwnNone
import Derived.Shelf.SlSortCmp.NoneTotal
import Derived.Test.YtlmgojlffgkciaaGreatFz34
import Derived.Test.YtlmgojlffgkciaaGreatFz35
import Derived.Test.YtlmgojlffgkciaaGreatFz30
namespace Go.Proofs.YtlmgojlffgkciaaGreat
open Go.RowKit
def IPartsAt (w : World) (p : Nat) (P : List (List Int)) : Prop := p < w.heap.size ∧ ∀ (i : Nat) (S : List Int), P[i]? = some S → ∃ b o c, w.cell? ⟨p, i, none⟩ = some (.slice (some ⟨b, o, none⟩) S.length c) ∧ IntsIn 0 w (some ⟨b, o, none⟩) S.length c S
theorem IPartsAt.keep {w w' : World} {p : Nat} {P : List (List Int)} (h : IPartsAt w p P) (hb : Below w.heap.size w w') : IPartsAt w' p P :=
  ⟨Nat.lt_of_lt_of_le h.1 hb.size, fun i S hS => by obtain ⟨b, o, c, h1, h2⟩ := h.2 i S hS; exact ⟨b, o, c, cell_later hb h1, h2.keep hb⟩⟩
end Go.Proofs.YtlmgojlffgkciaaGreat

namespace Go.Proofs.YtlmgojlffgkciaaGreat
open Go.RowKit
set_option maxRecDepth 100000
set_option maxHeartbeats 4000000
theorem growRuns (n : Nat) (w : World) (h1 : 1 ≤ n) (h2 : n ≤ 1048576) :
    Calls Tryz.prog 151 #[.slice none 0 0, .int .i64 n] w fun e w' => ∃ c, e = .returned (.slice (some ⟨w.heap.size, 0, none⟩) 0 c) ∧ w'.ownsRow w.heap.size 102 2 (.slice (some ⟨w.heap.size, 0, none⟩) 0 c) 0 [] ∧ Below w.heap.size w w' := by
  obtain ⟨i0, hi, hz0, hz1, hz2⟩ := info_parts Tryz.infoRun
  have hold : (Builtin.firstCells i0.size 0 (.slice none 0 0)).run Tryz.prog w.drew = .ok ([] : List Value).toArray w.drew := run_firstCells_none w.drew i0.size 0 0 0
  obtain ⟨G, hG⟩ : ∃ G, G = grownCap w n 0 102 := ⟨_, rfl⟩
  obtain ⟨W, hW⟩ : ∃ W, W = w.drew.alloc (.cells (([] : List Value).toArray ++ Builtin.zeroCells (Value.agg #[.slice none 0 0, .int .i64 0]).cells n ++ Builtin.zeroCells (Value.agg #[.slice none 0 0, .int .i64 0]).cells (G - n)) 102) := ⟨_, rfl⟩
  have hrz : ∀ ty, (Builtin.append_ #[64, 3] ty #[.slice none 0 0, .int .i64 n]).run Tryz.prog w = .ok (.slice (some ⟨w.heap.size, 0, none⟩) n G) W := fun ty => by
    have h := Lib.run_append_grow_zeros w 64 3 ty 102 i0 _ .i64 .i64 Tryz.underlying64 Tryz.underlying3 hi hz0 none 0 0 [] hold n h1 (by rw [hz1]; omega) (by omega) (by omega) (by rw [hz2]; omega) (by unfold Builtin.nextslicecap; rw [if_pos (by omega), hz2]; omega)
    simp only [Nat.zero_add] at h
    rw [hW, hG]
    exact h
  have hGn : n ≤ G := by rw [hG]; exact grownCap_ge w _ _ _
  have hGm : G ≤ maxLen := by rw [hG]; exact grownCap_le_maxLen w n 0 102 (by unfold maxLen; omega)
  have HO : Hid (W.ownsRow w.heap.size 102 2 (.slice (some ⟨w.heap.size, 0, none⟩) 0 G) 0 []) := by
    rw [hW]
    refine ⟨rfl, Or.inr ⟨w.heap.size, G, _, rfl, Nat.le_refl _, (by show (w.drew.heap.push _)[w.drew.heap.size]? = _; exact Array.getElem?_push_size), Nat.zero_le _, hGm, ?_, ?_⟩⟩
    · simp [Builtin.zeroCells, Value.cells]
      omega
    · simp
  have HB : Hid (Below w.heap.size w W) := by rw [hW]; exact ((Below.refl _ w).drew).alloc (Nat.le_refl _) _
  unfold maxLen at hGm
  clear hold hG hW
  go_enter Tryz.func151, Tryz.ntmps151
  go_wp2_with (at_builtin; refine Lib.wpList_append_run _ rfl _ _ _ _ rfl _ _ rfl rfl _ _ (hrz _) ?_)
  all_goals (go_ret; exact ⟨G, rfl, HO.out, HB.out⟩)
theorem growRunsNone (w : World) :
    Calls Tryz.prog 151 #[.slice none 0 0, .int .i64 0] w fun e w' => e = .returned (.slice none 0 0) ∧ w' = w := by
  go_enter Tryz.func151, Tryz.ntmps151
  go_wp2
  go_ret
  exact ⟨rfl, rfl⟩
def RawP (w : World) (v : Value) (n : Nat) (xs : List Value) : Prop :=
  xs.length = n * 2 ∧ (∀ u ∈ xs, u.oneCell' = true) ∧ ((v = .slice none 0 0 ∧ n = 0) ∨ ∃ b o c, v = .slice (some ⟨b, o, none⟩) n c ∧ ∀ j u, xs[j]? = some u → w.cell? ⟨b, o + j, none⟩ = some u)
theorem RawP.keep {w w' : World} {v : Value} {n : Nat} {xs : List Value} (h : RawP w v n xs) (hb : Below w.heap.size w w') : RawP w' v n xs := by
  obtain ⟨h1, h2, h3⟩ := h
  refine ⟨h1, h2, ?_⟩
  rcases h3 with h | ⟨b, o, c, hv, hc⟩
  · exact .inl h
  · exact .inr ⟨b, o, c, hv, fun j u hu => cell_later hb (hc j u hu)⟩
def RPartsAt (w : World) (p : Nat) (P : List (Nat × List Value)) : Prop := p < w.heap.size ∧ ∀ (i n : Nat) (xs : List Value), P[i]? = some (n, xs) → ∃ v, w.cell? ⟨p, i, none⟩ = some v ∧ RawP w v n xs
theorem RPartsAt.keep {w w' : World} {p : Nat} {P : List (Nat × List Value)} (h : RPartsAt w p P) (hb : Below w.heap.size w w') : RPartsAt w' p P :=
  ⟨Nat.lt_of_lt_of_le h.1 hb.size, fun i n xs hS => by obtain ⟨v, h1, h2⟩ := h.2 i n xs hS; exact ⟨v, cell_later hb h1, h2.keep hb⟩⟩
def sumV (P : List (Nat × List Value)) : Nat := (P.map Prod.fst).sum
def flatV (P : List (Nat × List Value)) : List Value := (P.map Prod.snd).flatten
theorem sumV_take {P : List (Nat × List Value)} {k n : Nat} {xs : List Value} (h : P[k]? = some (n, xs)) : sumV (P.take (k + 1)) = sumV (P.take k) + n := by
  unfold sumV
  rw [List.take_add_one, h]
  simp
theorem flatV_take {P : List (Nat × List Value)} {k n : Nat} {xs : List Value} (h : P[k]? = some (n, xs)) : flatV (P.take (k + 1)) = flatV (P.take k) ++ xs := by
  unfold flatV
  rw [List.take_add_one, h]
  simp
theorem sumV_le (P : List (Nat × List Value)) (k : Nat) : sumV (P.take k) ≤ sumV P := by
  have h : sumV P = sumV (P.take k) + sumV (P.drop k) := by
    unfold sumV
    rw [← List.sum_append, ← List.map_append, List.take_append_drop]
  omega
theorem concatRuns (p m : Nat) (P : List (Nat × List Value)) (w : World) (hP : RPartsAt w p P) (hm : P.length = m) (hm2 : m ≤ 100) (hs : sumV P ≤ 1048576) :
    Calls Tryz.prog 100 #[.slice (some ⟨p, 0, none⟩) m m] w fun e w' => ∃ v, e = .returned v ∧ w'.ownsRow w.heap.size 102 2 v (sumV P) (flatV P) ∧ Below w.heap.size w w' := by
  have HP : Hid (RPartsAt w p P) := hP
  have HM : Hid (P.length = m) := hm
  have HSZ : Hid (sumV P ≤ 1048576) := hs
  obtain ⟨N, hN⟩ : ∃ N, N = sumV P := ⟨_, rfl⟩
  have HN : Hid (N = sumV P) := hN
  have hNb : N ≤ 1048576 := by omega
  rw [← hN]
  have hpl := hP.1
  clear hP hm hs hN
  have CG : Hid (∀ w', Calls Tryz.prog 151 #[.slice none 0 0, .int .i64 N] w' fun e w'' => ∃ v, e = .returned v ∧ w''.ownsRow w'.heap.size 102 2 v 0 [] ∧ Below w'.heap.size w' w'') := fun w' => by
    by_cases h0 : N = 0
    · rw [h0]
      refine (growRunsNone w').mono ?_
      rintro e w'' ⟨rfl, rfl⟩
      exact ⟨_, rfl, World.ownsRow_nil _ _ _ _, Below.refl _ _⟩
    · refine (growRuns N w' (by omega) hNb).mono ?_
      rintro e w'' ⟨c, rfl, h1, h2⟩
      exact ⟨_, rfl, h1, h2⟩
  obtain ⟨i0, hi, hz0, hz1, hz2⟩ := info_parts Tryz.infoRun
  go_enter Tryz.func100, Tryz.ntmps100
  go_wp2
  go_loopw [3, 11] (fun sv iv wr => ∃ (k T : Nat), k ≤ m ∧ iv = .int .i64 k ∧ sv = .int .i64 (T : Int) ∧ T = sumV (P.take k) ∧ w = wr) (fun _ iv _ => m - (intOf iv).toNat)
  case atStart => exact ⟨0, 0, Nat.zero_le _, rfl, rfl, by simp [sumV], rfl⟩
  case round =>
    obtain ⟨k, T, hk, rfl, rfl, hT, rfl⟩ := hrel
    have HT : Hid (T = sumV (P.take k)) := hT
    have hTb : T ≤ 1048576 := by have h1 := sumV_le P k; have h2 := HSZ.out; omega
    clear hT
    by_cases hlt : k < m
    · have hltI : (k : Int) < (m : Int) := by omega
      obtain ⟨⟨n, xs⟩, hS⟩ : ∃ S, P[k]? = some S := ⟨_, List.getElem?_eq_getElem (by rw [HM.out]; exact hlt)⟩
      obtain ⟨v, g0, hI⟩ := HP.out.2 k n xs hS
      have HST : Hid (T + n = sumV (P.take (k + 1))) := by show _ = _; rw [sumV_take hS, HT.out]
      have hSb : T + n ≤ 1048576 := by have h1 := sumV_le P (k + 1); have h2 := HSZ.out; have h3 := HST.out; omega
      clear hS
      have hpos : ¬ ((T : Int) + (n : Int)) < 0 := by omega
      have hpos0 : ¬ (T : Int) < 0 := by omega
      rcases hI.2.2 with ⟨rfl, rfl⟩ | ⟨b, o, c, rfl, _⟩
      · clear hI
        go_wp2
        go_roundw
        case rel => exact ⟨k + 1, T, by omega, by go_num, by go_num, HST.out, by first | rfl | trivial⟩
        case measure => simp [intOf]; omega
      · clear hI
        go_wp2
        go_roundw
        case rel => exact ⟨k + 1, T + n, by omega, by go_num, by go_num, HST.out, by first | rfl | trivial⟩
        case measure => simp [intOf]; omega
    · have hltI : ¬ (k : Int) < (m : Int) := by omega
      have HTN : Hid (T = N) := by
        have := HT.out
        rw [List.take_of_length_le (by rw [HM.out]; omega), ← HN.out] at this
        exact this
      obtain rfl := HTN.out
      clear HTN
      go_wp2_with fail
      refine (CG.out _).mono ?_
      rintro e w1 ⟨v, rfl, hv, hb1⟩
      have HV : Hid (w1.ownsRow w.heap.size 102 2 v 0 []) := hv
      have HB1 : Hid (Below w.heap.size w w1) := hb1
      clear hv hb1
      go_wp2
      go_loopw [6, 27] (fun vv iv wr => ∃ (k : Nat), k ≤ m ∧ iv = .int .i64 k ∧ wr.ownsRow w.heap.size 102 2 vv (sumV (P.take k)) (flatV (P.take k)) ∧ Below w.heap.size w wr) (fun _ iv _ => m - (intOf iv).toNat)
      case atStart => exact ⟨0, Nat.zero_le _, rfl, by simpa [sumV, flatV] using HV.out, HB1.out⟩
      case round =>
        clear HV HB1
        obtain ⟨j, hj, rfl, hv, hb⟩ := hrel
        have HV : Hid (wr.ownsRow w.heap.size 102 2 _ (sumV (P.take j)) (flatV (P.take j))) := hv
        have HB : Hid (Below w.heap.size w wr) := hb
        have hbz := hb.size
        obtain ⟨U, hU⟩ : ∃ U, U = sumV (P.take j) := ⟨_, rfl⟩
        have HU : Hid (U = sumV (P.take j)) := hU
        have hUb : U ≤ 1048576 := by have h1 := sumV_le P j; have h2 := HSZ.out; omega
        rw [← hU] at HV
        clear hv hU
        by_cases hlt2 : j < m
        · have hltJ : (j : Int) < (m : Int) := by omega
          obtain ⟨⟨n, xs⟩, hS⟩ : ∃ S, P[j]? = some S := ⟨_, List.getElem?_eq_getElem (by rw [HM.out]; exact hlt2)⟩
          obtain ⟨v, g0, hI⟩ := (HP.out.keep hb).2 j n xs hS
          have HFS : Hid (flatV (P.take (j + 1)) = flatV (P.take j) ++ xs) := flatV_take hS
          have HSS : Hid (sumV (P.take (j + 1)) = U + n) := by show _ = _; rw [HU.out]; exact sumV_take hS
          have hSb : U + n ≤ 1048576 := by have h1 := sumV_le P (j + 1); have h2 := HSZ.out; have h3 := HSS.out; omega
          have hbl := World.block_lt_of_cell? _ _ g0
          simp only at hbl
          have HI : Hid (RawP wr v n xs) := hI
          clear hS hb
          rcases hI.2.2 with ⟨rfl, rfl⟩ | ⟨b, o, c, rfl, hcc⟩
          · have HX0 : Hid (xs = []) := List.length_eq_zero_iff.1 (by have := hI.1; omega)
            clear hI
            go_wp2_with (at_builtin; refine wpList_append_own_none rfl _ _ 64 rfl w.heap.size 102 i0 2 Tryz.underlying64 hi _ _ _ rfl HV.out rfl ?_)
            go_roundw
            case rel =>
              refine ⟨j + 1, by omega, by go_num, ?_, HB.out⟩
              rw [HFS.out, HSS.out, HX0.out, List.append_nil, Nat.add_zero]
              exact HV.out
            case measure => simp [intOf]; omega
          · have HCC : Hid (∀ j u, xs[j]? = some u → wr.cell? ((⟨b, o, none⟩ : Addr).add j) = some u) := fun j u hu => by rw [Go.WideShapes.add_plain]; exact hcc j u hu
            clear hI hcc
            go_wp2_with (at_builtin; refine wpList_append_own _ rfl _ _ 64 rfl w.heap.size 102 i0 _ 2 32 Tryz.underlying64 hi hz0 hz1 hz2 rfl (by decide) _ _ _ rfl HV.out ⟨b, o, none⟩ n c xs rfl HI.out.1 HCC.out HI.out.2.1 (by unfold maxLen; omega) (by omega) hbz ?_; intro v2 w2 hown2 hgrow2 hnil2)
            go_roundw
            case rel =>
              refine ⟨j + 1, by omega, by go_num, ?_, ?_⟩
              · rw [HFS.out, HSS.out]
                exact hown2
              · exact HB.out.grown hgrow2 HB.out.size (fun k e => (HV.out.lt k e).1)
            case measure => simp [intOf]; omega
        · have hltJ : ¬ (j : Int) < (m : Int) := by omega
          have h1 := HV.out
          have h2 := HU.out
          rw [List.take_of_length_le (by rw [HM.out]; omega)] at h1 h2
          rw [h2, ← HN.out] at h1
          have HVN : Hid (World.ownsRow _ _ _ _ _ _ _) := h1
          clear h1 h2
          clear HV hb
          go_wp2
          go_ret
          exact ⟨u6, by first | rfl | simp, HVN.out, HB.out⟩
def DenR (w : World) (xs : List Value) (B : List RunD) : Prop :=
  xs.length = B.length * 2 ∧ ∀ i (p : RunD), B[i]? = some p → (Lit.int .i64 p.2).wf = true ∧ ∃ s n c, xs[i * 2]? = some (.slice s n c) ∧ xs[i * 2 + 1]? = some (.int .i64 p.2) ∧ EntsIn 0 w s n c p.1
theorem DenR.keep {w w' : World} {xs : List Value} {B : List RunD} (h : DenR w xs B) (hb : Below w.heap.size w w') : DenR w' xs B :=
  ⟨h.1, fun i p hp => by obtain ⟨h1, s, n, c, h2, h3, h4⟩ := h.2 i p hp; exact ⟨h1, s, n, c, h2, h3, h4.same (Same.of_below hb)⟩⟩
theorem DenR.one {w : World} {xs : List Value} {B : List RunD} (h : DenR w xs B) : ∀ u ∈ xs, u.oneCell' = true := by
  intro u hu
  obtain ⟨j, hj, rfl⟩ := List.getElem_of_mem hu
  have hB : j / 2 < B.length := by have := h.1; omega
  obtain ⟨_, s, n, c, h2, h3, _⟩ := h.2 (j / 2) _ (List.getElem?_eq_getElem hB)
  rcases Nat.mod_two_eq_zero_or_one j with hm | hm
  · rw [show j / 2 * 2 = j by omega, List.getElem?_eq_getElem hj] at h2
    rw [Option.some.inj h2]; rfl
  · rw [show j / 2 * 2 + 1 = j by omega, List.getElem?_eq_getElem hj] at h3
    rw [Option.some.inj h3]; rfl
theorem den_row {w : World} {base n : Nat} {v : Value} {xs : List Value} {B : List RunD} (h : w.ownsRow base 102 2 v n xs) (d : DenR w xs B) : ∃ a c, v = .slice a n c ∧ RunsIn 0 w a n c B := by
  have hn : B.length = n := by have h1 := h.1; have h2 := d.1; omega
  rcases h.2 with ⟨hv, h0⟩ | ⟨g, cap, cur, hv, _⟩
  · subst hv h0
    obtain rfl := List.length_eq_zero_iff.1 hn
    exact ⟨none, 0, rfl, runsIn_nil 0 w⟩
  · subst hv
    have hrc := row_rooms h
    refine ⟨_, cap, rfl, hn, hrc.1, hrc.2, (fun e => by cases e), ?_, ?_⟩
    · rintro x e _
      cases e
      exact ⟨(h.lt g rfl).2, rfl, Nat.zero_le _⟩
    · rintro x e i hi
      cases e
      obtain ⟨h1, s, n', c, h2, h3, h4⟩ := d.2 i _ (List.getElem?_eq_getElem hi)
      refine ⟨h1, s, n', c, ?_, ?_, h4⟩
      · simp only [Nat.zero_add]
        exact (h.cellAt _ (by omega)).trans h2
      · simp only [Nat.zero_add]
        exact (h.cellAt _ (by omega)).trans h3
theorem RunsIn.raw {lo : Nat} {w : World} {b o n c : Nat} {B : List RunD} (h : RunsIn lo w (some ⟨b, o, none⟩) n c B) : ∃ xs, DenR w xs B ∧ RawP w (.slice (some ⟨b, o, none⟩) n c) n xs := by
  have hl := h.length
  refine ⟨(List.range (n * 2)).map (fun j => (w.cell? ⟨b, o + j, none⟩).getD (.int .i64 0)), ?_⟩
  have hat : ∀ i (hi : i < B.length), (Lit.int .i64 B[i].2).wf = true ∧ ∃ s n' c', w.cell? ⟨b, o + i * 2, none⟩ = some (.slice s n' c') ∧ w.cell? ⟨b, o + (i * 2 + 1), none⟩ = some (.int .i64 B[i].2) ∧ EntsIn lo w s n' c' B[i].1 := fun i hi => by
    have := h.runs _ rfl i hi
    simpa [Nat.add_assoc] using this
  have hd : DenR w ((List.range (n * 2)).map (fun j => (w.cell? ⟨b, o + j, none⟩).getD (.int .i64 0))) B := by
    refine ⟨by simp [hl], fun i p hp => ?_⟩
    have hi := (List.getElem?_eq_some_iff.1 hp).1
    have hp' := (List.getElem?_eq_some_iff.1 hp).2
    obtain ⟨h1, s, n', c', h2, h3, h4⟩ := hat i hi
    rw [hp'] at h1 h3 h4
    refine ⟨h1, s, n', c', ?_, ?_, h4.mono (Nat.zero_le _)⟩
    · rw [List.getElem?_map, List.getElem?_range (by omega)]
      simp [h2]
    · rw [List.getElem?_map, List.getElem?_range (by omega)]
      simp [h3]
  refine ⟨hd, by simp, hd.one, .inr ⟨b, o, c, rfl, fun j u hu => ?_⟩⟩
  have hj : j < n * 2 := by have := (List.getElem?_eq_some_iff.1 hu).1; simpa using this
  rw [List.getElem?_map, List.getElem?_range hj] at hu
  simp only [Option.map_some] at hu
  have hi : j / 2 < B.length := by omega
  obtain ⟨h1, s, n', c', h2, h3, h4⟩ := hat (j / 2) hi
  rcases Nat.mod_two_eq_zero_or_one j with hm | hm
  · rw [show j / 2 * 2 = j by omega] at h2
    rw [h2] at hu ⊢
    simpa using hu
  · rw [show j / 2 * 2 + 1 = j by omega] at h3
    rw [h3] at hu ⊢
    simpa using hu
end Go.Proofs.YtlmgojlffgkciaaGreat

namespace Go.Proofs.YtlmgojlffgkciaaGreat
open Go.RowKit
set_option maxRecDepth 100000
set_option maxHeartbeats 2000000
theorem cl_some : ∀ c : List EntD, c ≠ [] → clS false c ≠ []
  | [], h => absurd rfl h
  | e :: R, _ => by
    rw [clS_head (e := e) false rfl]
    unfold classG
    split
    · simp
    · simp
theorem fold_some (Cs : List (List EntD)) : (Cs.foldr (Sq.stepD clS) (false, [])).1 = false := by
  induction Cs with
  | nil => rfl
  | cons c Cs ih =>
    rw [List.foldr_cons]
    show (if _ then _ else false) = false
    split
    · exact ih
    · rfl
theorem left_some {S : List Int} {G : List EntD} (hG : G ≠ []) : leftS S false G ≠ [] := by
  unfold leftS Sq.leftD
  cases hp : Sq.parts (cutB S) G with
  | nil =>
    have h := Sq.parts_flat (cutB S) G
    rw [hp] at h
    exact absurd h.symm hG
  | cons c Cs =>
    have hc : c ≠ [] := part_ne (cutB S) G c (by rw [hp]; simp)
    rw [List.foldr_cons]
    show clS _ c ++ _ ≠ []
    rw [fold_some Cs]
    intro h
    exact cl_some c hc (List.append_eq_nil_iff.1 h).1
theorem squash_some {M : List EntD} (hr : rightB M = true) (hM : M ≠ []) (S : List Int) : squashL M S false ≠ [] := by
  unfold squashL
  rw [if_pos hr]
  cases hp : Sq.parts keyEq M with
  | nil =>
    have h := Sq.parts_flat keyEq M
    rw [hp] at h
    exact absurd h.symm hM
  | cons G Gs =>
    have hG : G ≠ [] := part_ne keyEq M G (by rw [hp]; simp)
    rw [List.flatMap_cons]
    intro h
    exact left_some hG (List.append_eq_nil_iff.1 h).1
theorem sort_right {L : List EntD} (h : rightB L = true) : sortE L = L := by
  have hb := sort_both L
  exact (strict_weak (right_strict h) hb.1 hb.2.symm).symm
theorem of_right {L : List EntD} (h : rightB L = true) (h1 : L ≠ []) (h2 : L.length ≤ 150) : ofB L = true ∧ ofL L = L ∧ ofM L = ((maskL L : Nat) : Int) := by
  have hs := sort_right h
  have hl : 1 ≤ L.length := by cases L with | nil => exact absurd rfl h1 | cons _ _ => simp
  have ho : ofB L = true := by unfold ofB; rw [hs, h, decide_eq_true hl, decide_eq_true h2]; rfl
  refine ⟨ho, ?_, ?_⟩
  · unfold ofL; rw [if_pos ho, hs]
  · unfold ofM; rw [if_pos ho, hs]
theorem of_nil : ofB [] = false := rfl
theorem ofM_wf (L : List EntD) : (Lit.int .i64 (ofM L)).wf = true := by
  unfold ofM
  split
  · have := maskL_lt (sortE L)
    exact WalkArith.wf_i64 (by omega)
  · rfl
theorem implRunOfO (base : Nat) (a : Option Addr) (n c : Nat) (L : List EntD) (w : World) (hO : OwnO w base a n c L) :
    Calls Tryz.prog 98 #[.slice a n c] w (OfR (ofL L) (ofM L) (ofB L) w) := by
  cases a with
  | none =>
    obtain ⟨h1, h2, h3⟩ := hO.nil rfl
    subst h1 h2 h3
    obtain ⟨X, hX⟩ : ∃ X, X = w.heap.size := ⟨_, rfl⟩
    obtain ⟨W, hW⟩ : ∃ W, W = w.alloc (.cells #[.slice none 0 0, .int .i64 0] 102) := ⟨_, rfl⟩
    have kW : Below w.heap.size w W := by rw [hW]; exact (Below.refl _ _).alloc (Nat.le_refl _) _
    have K0 : Hid (Below w.heap.size w W) := kW
    have HX : Hid (X = w.heap.size) := hX
    have x0 : W.cell? ⟨X, 0, none⟩ = some (.slice none 0 0) := by rw [hW, hX]; simp
    have x1 : W.cell? ⟨X, 1, none⟩ = some (.int .i64 0) := by rw [hW, hX]; simp
    have xf : ∀ o, W.frozen? ⟨X, o, none⟩ = false := fun o => by rw [hW, hX]; simp
    have xz := World.block_lt_of_cell? _ _ x0
    simp only at xz
    have CC : Hid (∀ w', Calls Tryz.prog 89 #[.slice none 0 0] w' fun e w'' => e = .returned (.slice none 0 0) ∧ w'' = w') := fun w' => AnyE.slices_Clone_nil Tryz.cloneL 0 0 w'
    have CF : Hid (∀ w', Calls Tryz.prog 144 #[.slice none 0 0, .func (.func 145) #[] #[]] w' fun e w'' => e = .returned (.tuple #[]) ∧ w'' = w') := fun w' => AnyF.slices_SortFunc_none Tryz.sortL none 0 _ w'
    have hE : ∀ w', EntsAt w' none 0 0 [] := fun w' => ⟨rfl, Nat.le_refl _, Nat.zero_le _, (fun e he => by cases he), fun _ => rfl, (fun x e => by cases e), (fun x e => by cases e)⟩
    have CM : Hid (∀ w', Calls Tryz.prog 146 #[.slice none 0 0] w' fun e w'' => e = .returned (.int .i64 ((maskL [] : Nat) : Int)) ∧ Below w'.heap.size w' w'') := fun w' => implMaskL none 0 0 [] w' (hE w')
    obtain ⟨m, hm⟩ : ∃ m : Int, m = ((maskL [] : Nat) : Int) := ⟨_, rfl⟩
    have CO : Hid (∀ w', Calls Tryz.prog 134 #[.agg #[.slice none 0 0, .int .i64 m]] w' fun e w'' => e = .returned (.bool false) ∧ Below w'.heap.size w' w'') := fun w' => implRunOk none 0 0 [] m w' (hE w')
    rw [← hm] at CM
    clear hO kW hE hm
    go_enter Tryz.func98, Tryz.ntmps98
    go_wp2_with fail
    rw [← hW]
    try rw [← hX]
    clear hW hX
    refine (CC.out _).mono ?_
    rintro e w1 ⟨rfl, rfl⟩
    go_wp2_with fail
    refine (CF.out _).mono ?_
    rintro e w1 ⟨rfl, rfl⟩
    go_wp2_with fail
    refine (CM.out _).mono ?_
    rintro e w2 ⟨rfl, hb2⟩
    obtain ⟨Y, hY⟩ : ∃ Y, Y = w2.heap.size := ⟨_, rfl⟩
    obtain ⟨w3, hw3⟩ : ∃ w3, w3 = w2.alloc (.cells #[.slice none 0 0, .int .i64 m] 102) := ⟨_, rfl⟩
    have k3 : Below w2.heap.size w2 w3 := by rw [hw3]; exact (Below.refl _ _).alloc (Nat.le_refl _) _
    have kk := hb2.trans (k3.mono hb2.size)
    have K3 : Hid (Below w.heap.size w w3) := K0.out.trans (kk.mono K0.out.size)
    have y0 : w3.cell? ⟨Y, 0, none⟩ = some (.slice none 0 0) := by rw [hw3, hY]; simp
    have y1 : w3.cell? ⟨Y, 1, none⟩ = some (.int .i64 m) := by rw [hw3, hY]; simp
    have yz := World.block_lt_of_cell? _ _ y0
    simp only at yz
    have x0 := cell_later kk x0
    have x1 := cell_later kk x1
    have xf : ∀ o, w3.frozen? ⟨X, o, none⟩ = false := fun o => (kk.frozen (p := ⟨X, o, none⟩) xz).trans (xf o)
    have xz := Nat.lt_of_lt_of_le xz kk.size
    clear hb2 k3 kk
    go_upto_region 6 with fail
    rw [← hw3]
    try rw [← hY]
    clear hw3 hY
    go_wp2_with fail
    refine (CO.out _).mono ?_
    rintro e w4 ⟨rfl, hb4⟩
    have K4 : Hid (Below w.heap.size w w4) := K3.out.trans (hb4.mono K3.out.size)
    have x0 := cell_later hb4 x0
    have x1 := cell_later hb4 x1
    have xf : ∀ o, w4.frozen? ⟨X, o, none⟩ = false := fun o => (hb4.frozen (p := ⟨X, o, none⟩) xz).trans (xf o)
    have xz := Nat.lt_of_lt_of_le xz hb4.size
    clear hb4 y0 y1 yz
    go_wp2
    refine bodyPost_ret (v := .tuple #[.agg #[.slice none 0 0, .int .i64 0], .bool false]) ?_ rfl (of_no of_nil ?_)
    · have e0 : ((w4.setCell ⟨X, 0, none⟩ (.slice none 0 0)).setCell ⟨X, 1, none⟩ (.int .i64 0)).cell? ⟨X, 0, none⟩ = some (.slice none 0 0) := by rw [World.cell?_setCell_other _ _ _ _ (by simp)]; exact World.cell?_setCell_same' _ _ _ (by rw [x0]; rfl)
      have e1 : ((w4.setCell ⟨X, 0, none⟩ (.slice none 0 0)).setCell ⟨X, 1, none⟩ (.int .i64 0)).cell? ⟨X, 1, none⟩ = some (.int .i64 0) := World.cell?_setCell_same' _ _ _ (by rw [World.cell?_setCell_other _ _ _ _ (by simp), x1]; rfl)
      simp [results, Tryz.results98, go_sem, e0, e1]
    · have hx : w.heap.size ≤ X := by have := HX.out; omega
      exact (K4.out.setCell (p := ⟨X, 0, none⟩) hx _).setCell (p := ⟨X, 1, none⟩) hx _
  | some x =>
    obtain ⟨g, rfl, h2⟩ := hO.own x rfl
    exact implRunOfX g 0 n c L w h2.entsAt
def DenP (p : Nat → Prop) (w : World) (xs : List Value) (B : List RunD) : Prop :=
  xs.length = B.length * 2 ∧ ∀ i (r : RunD), B[i]? = some r → (Lit.int .i64 r.2).wf = true ∧ ∃ s n c, xs[i * 2]? = some (.slice s n c) ∧ xs[i * 2 + 1]? = some (.int .i64 r.2) ∧ EntsAt w s n c r.1 ∧ ∀ x, s = some x → 0 < n → p x.block
theorem DenP.den {p : Nat → Prop} {w : World} {xs : List Value} {B : List RunD} (h : DenP p w xs B) : DenR w xs B :=
  ⟨h.1, fun i r hr => by obtain ⟨h1, s, n, c, h2, h3, h4, _⟩ := h.2 i r hr; exact ⟨h1, s, n, c, h2, h3, h4, fun x e _ => Nat.zero_le _⟩⟩
theorem DenR.denP {w : World} {xs : List Value} {B : List RunD} (h : DenR w xs B) : DenP (· < w.heap.size) w xs B :=
  ⟨h.1, fun i r hr => by obtain ⟨h1, s, n, c, h2, h3, h4⟩ := h.2 i r hr; exact ⟨h1, s, n, c, h2, h3, h4.1, fun x e hp => (h4.1.lies x e hp).1⟩⟩
theorem DenP.imp {p p' : Nat → Prop} {w : World} {xs : List Value} {B : List RunD} (h : DenP p w xs B) (hp : ∀ b, p b → p' b) : DenP p' w xs B :=
  ⟨h.1, fun i r hr => by obtain ⟨h1, s, n, c, h2, h3, h4, h5⟩ := h.2 i r hr; exact ⟨h1, s, n, c, h2, h3, h4, fun x e hn => hp _ (h5 x e hn)⟩⟩
theorem DenP.same {p : Nat → Prop} {w w' : World} {xs : List Value} {B : List RunD} (h : DenP p w xs B) (hs : w.heap.size ≤ w'.heap.size) (hb : ∀ b, p b → b < w.heap.size → w'.heap[b]? = w.heap[b]?) : DenP p w' xs B :=
  ⟨h.1, fun i r hr => by
    obtain ⟨h1, s, n, c, h2, h3, h4, h5⟩ := h.2 i r hr
    exact ⟨h1, s, n, c, h2, h3, h4.moved hs (fun x e hn o => World.cell?_of_block (hb _ (h5 x e hn) (h4.lies x e hn).1)), h5⟩⟩
theorem DenP.keepO {lo hi : Nat} {w w' : World} {xs : List Value} {B : List RunD} (h : DenP (fun b => b < lo ∨ hi ≤ b) w xs B) (k : KeepO lo hi w w') : DenP (fun b => b < lo ∨ hi ≤ b) w' xs B := h.same k.size (fun b hp hl => k.block b hl hp)
theorem DenP.below {p : Nat → Prop} {w w' : World} {xs : List Value} {B : List RunD} (h : DenP p w xs B) (k : Below w.heap.size w w') : DenP p w' xs B := h.same k.size (fun b _ hl => k.block b hl)
theorem DenP.low {w w' : World} {xs : List Value} {B : List RunD} (h : DenP (· < w.heap.size) w xs B) (k : Below w.heap.size w w') : DenP (· < w.heap.size) w' xs B := h.same k.size (fun b hp _ => k.block b hp)
theorem DenP.app {p : Nat → Prop} {w : World} {xs ys : List Value} {A B : List RunD} (h : DenP p w xs A) (k : DenP p w ys B) : DenP p w (xs ++ ys) (A ++ B) := by
  have hl := h.1
  have kl := k.1
  refine ⟨by rw [List.length_append, List.length_append, hl, kl]; omega, fun i r hr => ?_⟩
  by_cases hi : i < A.length
  · rw [List.getElem?_append_left hi] at hr
    rw [List.getElem?_append_left (by omega), List.getElem?_append_left (by omega)]
    exact h.2 i r hr
  · rw [List.getElem?_append_right (by omega)] at hr
    rw [List.getElem?_append_right (by omega), List.getElem?_append_right (by omega), show i * 2 - xs.length = (i - A.length) * 2 by omega, show i * 2 + 1 - xs.length = (i - A.length) * 2 + 1 by omega]
    exact k.2 _ r hr
theorem denP_own {p : Nat → Prop} {w : World} {base : Nat} {a : Option Addr} {n c : Nat} {m : Int} {L : List EntD} (hw : (Lit.int .i64 m).wf = true) (hO : OwnO w base a n c L) (hp : ∀ b, base ≤ b → p b) : DenP p w [.slice a n c, .int .i64 m] [(L, m)] := by
  refine ⟨rfl, fun i r hr => ?_⟩
  have hi : i = 0 := by have := (List.getElem?_eq_some_iff.1 hr).1; simpa using this
  subst hi
  simp at hr
  subst hr
  exact ⟨hw, a, n, c, rfl, rfl, hO.entsAt, fun x e _ => hp _ (hO.lt x e).1⟩
def flushO (M : List EntD) (A : List RunD) : Bool := decide (M ≠ []) && decide (A.length < 4)
def flushR (M : List EntD) (S : List Int) : RunD := (squashL M S false, ((maskL (squashL M S false) : Nat) : Int))
end Go.Proofs.YtlmgojlffgkciaaGreat
