/-
  The library's Concat at numbers, by a walk of its Go text.
-/
import Derived.Test.YtlmgojlffgkciaaGreatGaXCcI
import Derived.Test.YtlmgojlffgkciaaGreatGa20
namespace Go.Proofs.YtlmgojlffgkciaaGreat
open Go.RowKit
set_option maxRecDepth 100000
set_option maxHeartbeats 4000000
def IPartsAt (w : World) (p : Nat) (P : List (List Int)) : Prop := p < w.heap.size ∧ ∀ (i : Nat) (S : List Int), P[i]? = some S → ∃ b o c, w.cell? ⟨p, i, none⟩ = some (.slice (some ⟨b, o, none⟩) S.length c) ∧ IntsIn 0 w (some ⟨b, o, none⟩) S.length c S
theorem IPartsAt.keep {w w' : World} {p : Nat} {P : List (List Int)} (h : IPartsAt w p P) (hb : Below w.heap.size w w') : IPartsAt w' p P :=
  ⟨Nat.lt_of_lt_of_le h.1 hb.size, fun i S hS => by obtain ⟨b, o, c, h1, h2⟩ := h.2 i S hS; exact ⟨b, o, c, cell_later hb h1, h2.keep hb⟩⟩
theorem take_flat {P : List (List Int)} {k : Nat} {S : List Int} (h : P[k]? = some S) : (P.take (k + 1)).flatten = (P.take k).flatten ++ S := by
  rw [List.take_add_one, h]
  simp
theorem take_flat_le (P : List (List Int)) (k : Nat) : (P.take k).flatten.length ≤ P.flatten.length := by
  have h : P.flatten = (P.take k).flatten ++ (P.drop k).flatten := by rw [← List.flatten_append, List.take_append_drop]
  rw [h, List.length_append]
  omega
theorem concatInts (p m : Nat) (P : List (List Int)) (w : World) (hP : IPartsAt w p P) (hm : P.length = m) (hm2 : m ≤ 100) (hs : P.flatten.length ≤ 1048576) :
    Calls Tryz.prog 81 #[.slice (some ⟨p, 0, none⟩) m m] w fun e w' => ∃ v, e = .returned v ∧ w'.ownsRow w.heap.size 3 1 v P.flatten.length (P.flatten.map (Value.int .i64)) ∧ Below w.heap.size w w' := by
  have HP : Hid (IPartsAt w p P) := hP
  have HM : Hid (P.length = m) := hm
  have HSZ : Hid (P.flatten.length ≤ 1048576) := hs
  obtain ⟨N, hN⟩ : ∃ N, N = P.flatten.length := ⟨_, rfl⟩
  have HN : Hid (N = P.flatten.length) := hN
  have hNb : N ≤ 1048576 := by omega
  rw [← hN]
  obtain ⟨F, hF⟩ : ∃ F, F = P.flatten.map (Value.int .i64) := ⟨_, rfl⟩
  have HF : Hid (F = P.flatten.map (Value.int .i64)) := hF
  rw [← hF]
  clear hF
  have hpl := hP.1
  clear hP hm hs hN
  have CG : Hid (∀ w', Calls Tryz.prog 122 #[.slice none 0 0, .int .i64 N] w' fun e w'' => ∃ v, e = .returned v ∧ w''.ownsRow w'.heap.size 3 1 v 0 [] ∧ Below w'.heap.size w' w'') := fun w' => by
    by_cases h0 : N = 0
    · rw [h0]
      refine (growNone w').mono ?_
      rintro e w'' ⟨rfl, rfl⟩
      exact ⟨_, rfl, World.ownsRow_nil _ _ _ _, Below.refl _ _⟩
    · refine (growInts N w' (by omega) hNb).mono ?_
      rintro e w'' ⟨c, rfl, h1, h2⟩
      exact ⟨_, rfl, h1, h2⟩
  obtain ⟨i0, hi, hz0, hz1, hz2⟩ := info_parts Tryz.infoInt
  go_enter Tryz.func81, Tryz.ntmps81
  go_wp2
  go_loopw [3, 11] (fun sv iv wr => ∃ (k T : Nat), k ≤ m ∧ iv = .int .i64 k ∧ sv = .int .i64 (T : Int) ∧ T = (P.take k).flatten.length ∧ w = wr) (fun _ iv _ => m - (intOf iv).toNat)
  case atStart => exact ⟨0, 0, Nat.zero_le _, rfl, rfl, by simp, rfl⟩
  case round =>
    obtain ⟨k, T, hk, rfl, rfl, hT, rfl⟩ := hrel
    have HT : Hid (T = (P.take k).flatten.length) := hT
    have hTb : T ≤ 1048576 := by have h1 := take_flat_le P k; have h2 := HSZ.out; omega
    clear hT
    by_cases hlt : k < m
    · have hltI : (k : Int) < (m : Int) := by omega
      obtain ⟨S, hS⟩ : ∃ S, P[k]? = some S := ⟨_, List.getElem?_eq_getElem (by rw [HM.out]; exact hlt)⟩
      obtain ⟨b, o, c, g0, hI⟩ := HP.out.2 k S hS
      have HST : Hid (T + S.length = (P.take (k + 1)).flatten.length) := by show _ = _; rw [take_flat hS, List.length_append, HT.out]
      have hSb : T + S.length ≤ 1048576 := by have h1 := take_flat_le P (k + 1); have h2 := HSZ.out; have h3 := HST.out; omega
      obtain ⟨ls, hls⟩ : ∃ ls, ls = S.length := ⟨_, rfl⟩
      rw [← hls] at g0 hSb HST
      clear hI hS hls
      have hpos : ¬ ((T : Int) + (ls : Int)) < 0 := by omega
      go_wp2
      go_roundw
      case rel => exact ⟨k + 1, T + ls, by omega, by go_num, by go_num, HST.out, by first | rfl | trivial⟩
      case measure => simp [intOf]; omega
    · have hltI : ¬ (k : Int) < (m : Int) := by omega
      have HTN : Hid (T = N) := by
        have := HT.out
        rw [List.take_of_length_le (by rw [HM.out]; omega), ← HN.out] at this
        exact this
      obtain rfl := HTN.out
      clear HTN
      go_wp2_with fail
      refine (CG.out _).mono ?_
      rintro e w1 ⟨v, rfl, hv, hb1⟩
      have HV : Hid (w1.ownsRow w.heap.size 3 1 v 0 []) := hv
      have HB1 : Hid (Below w.heap.size w w1) := hb1
      clear hv hb1
      go_wp2
      go_loopw [6, 27] (fun vv iv wr => ∃ (k : Nat), k ≤ m ∧ iv = .int .i64 k ∧ wr.ownsRow w.heap.size 3 1 vv (P.take k).flatten.length ((P.take k).flatten.map (Value.int .i64)) ∧ Below w.heap.size w wr) (fun _ iv _ => m - (intOf iv).toNat)
      case atStart => exact ⟨0, Nat.zero_le _, rfl, by simpa using HV.out, HB1.out⟩
      case round =>
        clear HV HB1
        obtain ⟨j, hj, rfl, hv, hb⟩ := hrel
        have HV : Hid (wr.ownsRow w.heap.size 3 1 _ (P.take j).flatten.length ((P.take j).flatten.map (Value.int .i64))) := hv
        have HB : Hid (Below w.heap.size w wr) := hb
        have hbz := hb.size
        obtain ⟨U, hU⟩ : ∃ U, U = (P.take j).flatten.length := ⟨_, rfl⟩
        have HU : Hid (U = (P.take j).flatten.length) := hU
        have hUb : U ≤ 1048576 := by have h1 := take_flat_le P j; have h2 := HSZ.out; omega
        rw [← hU] at HV
        clear hv hU
        by_cases hlt2 : j < m
        · have hltJ : (j : Int) < (m : Int) := by omega
          obtain ⟨S, hS⟩ : ∃ S, P[j]? = some S := ⟨_, List.getElem?_eq_getElem (by rw [HM.out]; exact hlt2)⟩
          obtain ⟨b, o, c, g0, hI⟩ := (HP.out.keep hb).2 j S hS
          have HFS : Hid ((P.take (j + 1)).flatten = (P.take j).flatten ++ S) := take_flat hS
          have hSb : U + S.length ≤ 1048576 := by have h1 := take_flat_le P (j + 1); have h2 := HSZ.out; have h3 := HU.out; rw [HFS.out, List.length_append] at h1; omega
          have hbl := World.block_lt_of_cell? _ _ g0
          simp only at hbl
          obtain ⟨ls, hls⟩ : ∃ ls, ls = S.length := ⟨_, rfl⟩
          have HLS : Hid (ls = S.length) := hls
          have HI : Hid (IntsIn 0 wr (some ⟨b, o, none⟩) ls c S) := by rw [hls]; exact hI
          rw [← hls] at g0 hSb
          clear hI hS hls hb
          go_wp2_with (at_builtin; refine wpList_append_own _ rfl _ _ 24 rfl w.heap.size 3 i0 _ 1 8 Tryz.underlying24 hi hz0 hz1 hz2 rfl (by decide) _ _ _ rfl HV.out ⟨b, o, none⟩ ls c (S.map (Value.int .i64)) rfl (by rw [List.length_map, HLS.out, Nat.mul_one]) (ints_news HI.out) (by intro u hu; obtain ⟨z, _, rfl⟩ := List.mem_map.1 hu; rfl) (by unfold maxLen; omega) (by omega) hbz ?_; intro v2 w2 hown2 hgrow2 hnil2)
          go_roundw
          case rel =>
            refine ⟨j + 1, by omega, by go_num, ?_, ?_⟩
            · rw [HFS.out, List.length_append, List.map_append, ← HU.out, ← HLS.out]
              exact hown2
            · exact HB.out.grown hgrow2 HB.out.size (fun k e => (HV.out.lt k e).1)
          case measure => simp [intOf]; omega
        · have hltJ : ¬ (j : Int) < (m : Int) := by omega
          have h1 := HV.out
          have h2 := HU.out
          rw [List.take_of_length_le (by rw [HM.out]; omega)] at h1 h2
          rw [h2, ← HN.out] at h1
          have HVN : Hid (World.ownsRow _ _ _ _ _ _ _) := h1
          clear h1 h2
          clear HV hb
          go_wp2
          go_ret
          exact ⟨u6, by first | rfl | simp, by rw [HF.out]; exact HVN.out, HB.out⟩
end Go.Proofs.YtlmgojlffgkciaaGreat
