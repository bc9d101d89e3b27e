/-
  The library's Concat at numbers, by a walk of its Go text.
  The program's snap: what it makes of a tree, by a walk of its Go text.
-/
import Derived.Test.YtlmgojlffgkciaaGreatTb38
import Derived.Test.YtlmgojlffgkciaaGreatTb40
import Derived.Test.YtlmgojlffgkciaaGreatTb35
import Derived.RangeFuncBox
namespace Go.Proofs.YtlmgojlffgkciaaGreat
open Go.RowKit

/-- Lists of numbers, their headers in a row. -/
def IPartsAt (w : World) (p : Nat) (P : List (List Int)) : Prop := p < w.heap.size ∧ ∀ (i : Nat) (S : List Int), P[i]? = some S → ∃ b o c, w.cell? ⟨p, i, none⟩ = some (.slice (some ⟨b, o, none⟩) S.length c) ∧ IntsIn 0 w (some ⟨b, o, none⟩) S.length c S
theorem IPartsAt.keep {w w' : World} {p : Nat} {P : List (List Int)} (h : IPartsAt w p P) (hb : Below w.heap.size w w') : IPartsAt w' p P :=
  ⟨Nat.lt_of_lt_of_le h.1 hb.size, fun i S hS => by obtain ⟨b, o, c, h1, h2⟩ := h.2 i S hS; exact ⟨b, o, c, cell_later hb h1, h2.keep hb⟩⟩
theorem take_flat {P : List (List Int)} {k : Nat} {S : List Int} (h : P[k]? = some S) : (P.take (k + 1)).flatten = (P.take k).flatten ++ S := by
  rw [List.take_add_one, h]
  simp
theorem take_flat_le (P : List (List Int)) (k : Nat) : (P.take k).flatten.length ≤ P.flatten.length := by
  have h : P.flatten = (P.take k).flatten ++ (P.drop k).flatten := by rw [← List.flatten_append, List.take_append_drop]
  rw [h, List.length_append]
  omega

set_option maxRecDepth 100000 in
set_option maxHeartbeats 4000000 in
theorem concatInts (p m : Nat) (P : List (List Int)) (w : World) (hP : IPartsAt w p P) (hm : P.length = m) (hm2 : m ≤ 100) (hs : P.flatten.length ≤ 1048576) :
    Calls Tryz.prog 81 #[.slice (some ⟨p, 0, none⟩) m m] w fun e w' => ∃ v, e = .returned v ∧ w'.ownsRow w.heap.size 3 1 v P.flatten.length (P.flatten.map (Value.int .i64)) ∧ Below w.heap.size w w' := by
  have HP : Hid (IPartsAt w p P) := hP
  have HM : Hid (P.length = m) := hm
  have HSZ : Hid (P.flatten.length ≤ 1048576) := hs
  obtain ⟨N, hN⟩ : ∃ N, N = P.flatten.length := ⟨_, rfl⟩
  have HN : Hid (N = P.flatten.length) := hN
  have hNb : N ≤ 1048576 := by omega
  rw [← hN]
  obtain ⟨F, hF⟩ : ∃ F, F = P.flatten.map (Value.int .i64) := ⟨_, rfl⟩
  have HF : Hid (F = P.flatten.map (Value.int .i64)) := hF
  rw [← hF]
  clear hF
  have hpl := hP.1
  clear hP hm hs hN
  have CG : Hid (∀ w', Calls Tryz.prog 122 #[.slice none 0 0, .int .i64 N] w' fun e w'' => ∃ v, e = .returned v ∧ w''.ownsRow w'.heap.size 3 1 v 0 [] ∧ Below w'.heap.size w' w'') := fun w' => by
    by_cases h0 : N = 0
    · rw [h0]
      refine (growNone w').mono ?_
      rintro e w'' ⟨rfl, rfl⟩
      exact ⟨_, rfl, World.ownsRow_nil _ _ _ _, Below.refl _ _⟩
    · refine (growInts N w' (by omega) hNb).mono ?_
      rintro e w'' ⟨c, rfl, h1, h2⟩
      exact ⟨_, rfl, h1, h2⟩
  obtain ⟨i0, hi, hz0, hz1, hz2⟩ := info_parts Tryz.infoInt
  go_enter Tryz.func81, Tryz.ntmps81
  go_wp2
  go_loopw [3, 11] (fun sv iv wr => ∃ (k T : Nat), k ≤ m ∧ iv = .int .i64 k ∧ sv = .int .i64 (T : Int) ∧ T = (P.take k).flatten.length ∧ w = wr) (fun _ iv _ => m - (intOf iv).toNat)
  case atStart => exact ⟨0, 0, Nat.zero_le _, rfl, rfl, by simp, rfl⟩
  case round =>
    obtain ⟨k, T, hk, rfl, rfl, hT, rfl⟩ := hrel
    have HT : Hid (T = (P.take k).flatten.length) := hT
    have hTb : T ≤ 1048576 := by have h1 := take_flat_le P k; have h2 := HSZ.out; omega
    clear hT
    by_cases hlt : k < m
    · have hltI : (k : Int) < (m : Int) := by omega
      obtain ⟨S, hS⟩ : ∃ S, P[k]? = some S := ⟨_, List.getElem?_eq_getElem (by rw [HM.out]; exact hlt)⟩
      obtain ⟨b, o, c, g0, hI⟩ := HP.out.2 k S hS
      have HST : Hid (T + S.length = (P.take (k + 1)).flatten.length) := by show _ = _; rw [take_flat hS, List.length_append, HT.out]
      have hSb : T + S.length ≤ 1048576 := by have h1 := take_flat_le P (k + 1); have h2 := HSZ.out; have h3 := HST.out; omega
      obtain ⟨ls, hls⟩ : ∃ ls, ls = S.length := ⟨_, rfl⟩
      rw [← hls] at g0 hSb HST
      clear hI hS hls
      have hpos : ¬ ((T : Int) + (ls : Int)) < 0 := by omega
      go_wp2
      go_roundw
      case rel => exact ⟨k + 1, T + ls, by omega, by go_num, by go_num, HST.out, by first | rfl | trivial⟩
      case measure => simp [intOf]; omega
    · have hltI : ¬ (k : Int) < (m : Int) := by omega
      have HTN : Hid (T = N) := by
        have := HT.out
        rw [List.take_of_length_le (by rw [HM.out]; omega), ← HN.out] at this
        exact this
      obtain rfl := HTN.out
      clear HTN
      go_wp2_with fail
      refine (CG.out _).mono ?_
      rintro e w1 ⟨v, rfl, hv, hb1⟩
      have HV : Hid (w1.ownsRow w.heap.size 3 1 v 0 []) := hv
      have HB1 : Hid (Below w.heap.size w w1) := hb1
      clear hv hb1
      go_wp2
      go_loopw [6, 27] (fun vv iv wr => ∃ (k : Nat), k ≤ m ∧ iv = .int .i64 k ∧ wr.ownsRow w.heap.size 3 1 vv (P.take k).flatten.length ((P.take k).flatten.map (Value.int .i64)) ∧ Below w.heap.size w wr) (fun _ iv _ => m - (intOf iv).toNat)
      case atStart => exact ⟨0, Nat.zero_le _, rfl, by simpa using HV.out, HB1.out⟩
      case round =>
        clear HV HB1
        obtain ⟨j, hj, rfl, hv, hb⟩ := hrel
        have HV : Hid (wr.ownsRow w.heap.size 3 1 _ (P.take j).flatten.length ((P.take j).flatten.map (Value.int .i64))) := hv
        have HB : Hid (Below w.heap.size w wr) := hb
        have hbz := hb.size
        obtain ⟨U, hU⟩ : ∃ U, U = (P.take j).flatten.length := ⟨_, rfl⟩
        have HU : Hid (U = (P.take j).flatten.length) := hU
        have hUb : U ≤ 1048576 := by have h1 := take_flat_le P j; have h2 := HSZ.out; omega
        rw [← hU] at HV
        clear hv hU
        by_cases hlt2 : j < m
        · have hltJ : (j : Int) < (m : Int) := by omega
          obtain ⟨S, hS⟩ : ∃ S, P[j]? = some S := ⟨_, List.getElem?_eq_getElem (by rw [HM.out]; exact hlt2)⟩
          obtain ⟨b, o, c, g0, hI⟩ := (HP.out.keep hb).2 j S hS
          have HFS : Hid ((P.take (j + 1)).flatten = (P.take j).flatten ++ S) := take_flat hS
          have hSb : U + S.length ≤ 1048576 := by have h1 := take_flat_le P (j + 1); have h2 := HSZ.out; have h3 := HU.out; rw [HFS.out, List.length_append] at h1; omega
          have hbl := World.block_lt_of_cell? _ _ g0
          simp only at hbl
          obtain ⟨ls, hls⟩ : ∃ ls, ls = S.length := ⟨_, rfl⟩
          have HLS : Hid (ls = S.length) := hls
          have HI : Hid (IntsIn 0 wr (some ⟨b, o, none⟩) ls c S) := by rw [hls]; exact hI
          rw [← hls] at g0 hSb
          clear hI hS hls hb
          go_wp2_with (at_builtin; refine wpList_append_own _ rfl _ _ 24 rfl w.heap.size 3 i0 _ 1 8 Tryz.underlying24 hi hz0 hz1 hz2 rfl (by decide) _ _ _ rfl HV.out ⟨b, o, none⟩ ls c (S.map (Value.int .i64)) rfl (by rw [List.length_map, HLS.out, Nat.mul_one]) (ints_news HI.out) (by intro u hu; obtain ⟨z, _, rfl⟩ := List.mem_map.1 hu; rfl) (by unfold maxLen; omega) (by omega) hbz ?_; intro v2 w2 hown2 hgrow2 hnil2)
          go_roundw
          case rel =>
            refine ⟨j + 1, by omega, by go_num, ?_, ?_⟩
            · rw [HFS.out, List.length_append, List.map_append, ← HU.out, ← HLS.out]
              exact hown2
            · exact HB.out.grown hgrow2 HB.out.size (fun k e => (HV.out.lt k e).1)
          case measure => simp [intOf]; omega
        · have hltJ : ¬ (j : Int) < (m : Int) := by omega
          have h1 := HV.out
          have h2 := HU.out
          rw [List.take_of_length_le (by rw [HM.out]; omega)] at h1 h2
          rw [h2, ← HN.out] at h1
          have HVN : Hid (World.ownsRow _ _ _ _ _ _ _) := h1
          clear h1 h2
          clear HV hb
          go_wp2
          go_ret
          exact ⟨u6, by first | rfl | simp, by rw [HF.out]; exact HVN.out, HB.out⟩
end Go.Proofs.YtlmgojlffgkciaaGreat

namespace Go.Proofs.YtlmgojlffgkciaaGreat
open Go.RowKit

theorem intsIn_row {w : World} {base g n c : Nat} {S : List Int} (h : w.ownsRow base 3 1 (.slice (some ⟨g, 0, none⟩) n c) n (S.map (Value.int .i64))) (hl : S.length = n) (hw : ∀ z ∈ S, (Lit.int .i64 z).wf = true) : IntsIn base w (some ⟨g, 0, none⟩) n c S := by
  have hrc := row_rooms h
  refine ⟨hl, hrc.1, hrc.2, hw, (fun e => by cases e), ?_, ?_⟩
  · rintro x e _
    cases e
    exact ⟨(h.lt g rfl).2, rfl, (h.lt g rfl).1⟩
  · rintro x e i hi
    cases e
    simp only [Nat.zero_add]
    have h1 := h.cellAt i (by omega)
    rw [List.getElem?_map, List.getElem?_eq_getElem hi] at h1
    exact h1
/-- One number in a block of its own. -/
theorem ints_one (w : World) (q : Int) (hq : (Lit.int .i64 q).wf = true) : IntsIn 0 (w.alloc (.cells #[.int .i64 q] 3)) (some ⟨w.heap.size, 0, none⟩) 1 1 [q] := by
  refine ⟨rfl, Nat.le_refl _, by unfold maxLen; omega, fun z hz => by rw [List.mem_singleton] at hz; subst hz; exact hq, (fun e => by cases e), ?_, ?_⟩
  · rintro x e _
    cases e
    exact ⟨by simp, rfl, Nat.zero_le _⟩
  · rintro x e i hi
    cases e
    have hi0 : i = 0 := by simp at hi; exact hi
    subst hi0
    simp

set_option maxRecDepth 100000 in
set_option maxHeartbeats 4000000 in
theorem implSnap (lo : Nat) (q : Int) (am : Option Addr) (nm cm : Nat) (a0 a1 a2 : Option Addr) (n0 c0 n1 c1 n2 c2 kb ko nk ck : Nat) (S : List Int) (w : World) (hS : IntsIn lo w (some ⟨kb, ko, none⟩) nk ck S) (hn : nk ≤ 1000) (hq : (Lit.int .i64 q).wf = true) :
    Calls Tryz.prog 43 #[.agg #[.int .i64 q, .slice am nm cm, .slice a0 n0 c0, .slice a1 n1 c1, .slice a2 n2 c2, .slice (some ⟨kb, ko, none⟩) nk ck]] w fun e w' => ∃ g c, e = .returned (.tuple #[.agg #[.int .i64 q, .slice am nm cm, .slice a0 n0 c0, .slice a1 n1 c1, .slice a2 n2 c2, .slice (some ⟨g, 0, none⟩) (nk + 1) c], .bool (decide (nk < 4) && !decide (q ∈ S))]) ∧ IntsIn w.heap.size w' (some ⟨g, 0, none⟩) (nk + 1) c (S ++ [q]) ∧ Below w.heap.size w w' := by
  obtain ⟨X, hX⟩ : ∃ X, X = w.heap.size := ⟨_, rfl⟩
  obtain ⟨W, hW⟩ : ∃ W, W = (w.alloc (.cells #[.int .i64 q, .slice am nm cm, .slice a0 n0 c0, .slice a1 n1 c1, .slice a2 n2 c2, .slice (some ⟨kb, ko, none⟩) nk ck] 67)).alloc (.cells #[.int .i64 0, .slice none 0 0, .slice none 0 0, .slice none 0 0, .slice none 0 0, .slice none 0 0] 67) := ⟨_, rfl⟩
  have kW : Below w.heap.size w W := by rw [hW]; exact ((Below.refl _ _).alloc (Nat.le_refl _) _).alloc (by simp) _
  have bx : Box6 W X (.int .i64 q) (.slice am nm cm) (.slice a0 n0 c0) (.slice a1 n1 c1) (.slice a2 n2 c2) (.slice (some ⟨kb, ko, none⟩) nk ck) := by rw [hW, hX]; exact (Box6.new _ _ _ _ _ _ _ _).alloc _
  have br : Box6 W (X + 1) (.int .i64 0) (.slice none 0 0) (.slice none 0 0) (.slice none 0 0) (.slice none 0 0) (.slice none 0 0) := by
    have := Box6.new (w.alloc (.cells #[.int .i64 q, .slice am nm cm, .slice a0 n0 c0, .slice a1 n1 c1, .slice a2 n2 c2, .slice (some ⟨kb, ko, none⟩) nk ck] 67)) 67 (.int .i64 0) (.slice none 0 0) (.slice none 0 0) (.slice none 0 0) (.slice none 0 0) (.slice none 0 0)
    rw [World.size_alloc] at this
    rw [hW, hX]
    exact this
  have HS : Hid (IntsIn lo W (some ⟨kb, ko, none⟩) nk ck S) := hS.keep kW
  have HSL : Hid (S.length = nk) := hS.length
  have HSW : Hid (∀ z ∈ S, (Lit.int .i64 z).wf = true) := hS.wfs
  have HX : Hid (X = w.heap.size) := hX
  have K0 : Hid (Below w.heap.size w W) := kW
  obtain ⟨Z, hZ⟩ : ∃ Z, Z = decide (q ∈ S) := ⟨_, rfl⟩
  have CC : Hid (∀ w', Below W.heap.size W w' → Calls Tryz.prog 80 #[.slice (some ⟨kb, ko, none⟩) nk ck, .int .i64 q] w' fun e w'' => e = .returned (.bool Z) ∧ w'' = w') := fun w' k => by rw [hZ]; exact containsInts lo _ nk ck S q w' (HS.out.keep k) (by omega)
  rw [← hZ]
  clear hS kW hZ
  have x0 := bx.c0
  have x1 := bx.c1
  have x2 := bx.c2
  have x3 := bx.c3
  have x4 := bx.c4
  have x5 := bx.c5
  have xf := bx.fz
  have xz := bx.lt
  have hsz : W.heap.size = X + 1 + 1 := by rw [hW, hX]; simp
  obtain ⟨W2, hW2⟩ : ∃ W2, W2 = (W.alloc (.cells #[.int .i64 q] 3)).alloc (.cells #[.slice (some ⟨kb, ko, none⟩) nk ck, .slice (some ⟨X + 1 + 1, 0, none⟩) 1 1] 24) := ⟨_, rfl⟩
  have ka : Below W.heap.size W (W.alloc (.cells #[.int .i64 q] 3)) := (Below.refl _ _).alloc (Nat.le_refl _) _
  have kb2 : Below (W.alloc (.cells #[.int .i64 q] 3)).heap.size (W.alloc (.cells #[.int .i64 q] 3)) W2 := by rw [hW2]; exact (Below.refl _ _).alloc (Nat.le_refl _) _
  have k2 : Below W.heap.size W W2 := ka.trans (kb2.mono ka.size)
  have hP : IPartsAt W2 (X + 1 + 1 + 1) [S, [q]] := by
    have hI0 : IntsIn 0 W2 (some ⟨kb, ko, none⟩) nk ck S := (HS.out.lower (Nat.zero_le _)).keep k2
    have hI1 : IntsIn 0 W2 (some ⟨X + 1 + 1, 0, none⟩) 1 1 [q] := by
      have := (ints_one W q hq).keep kb2
      rw [hsz] at this
      exact this
    have hc : ∀ j u, [Value.slice (some ⟨kb, ko, none⟩) nk ck, Value.slice (some ⟨X + 1 + 1, 0, none⟩) 1 1][j]? = some u → W2.cell? ⟨X + 1 + 1 + 1, j, none⟩ = some u := by
      intro j u hj
      have h1 := cell_two_new' (W.alloc (.cells #[.int .i64 q] 3)) (.slice (some ⟨kb, ko, none⟩) nk ck) (.slice (some ⟨X + 1 + 1, 0, none⟩) 1 1) 24 j u hj
      rw [Go.WideShapes.add_plain, Nat.zero_add, World.size_alloc, hsz, ← hW2] at h1
      exact h1
    refine ⟨World.block_lt_of_cell? _ _ (hc 0 _ rfl), fun i S' hS' => ?_⟩
    match i, hS' with
    | 0, hS' => simp at hS'; subst hS'; have hl := HSL.out; subst hl; exact ⟨kb, ko, ck, hc 0 _ rfl, hI0⟩
    | 1, hS' => simp at hS'; subst hS'; exact ⟨X + 1 + 1, 0, 1, hc 1 _ rfl, hI1⟩
  have hfl : [S, [q]].flatten = S ++ [q] := by simp
  have CN : Hid (Calls Tryz.prog 81 #[.slice (some ⟨X + 1 + 1 + 1, 0, none⟩) 2 2] W2 fun e w' => ∃ g c, e = .returned (.slice (some ⟨g, 0, none⟩) (nk + 1) c) ∧ IntsIn W.heap.size w' (some ⟨g, 0, none⟩) (nk + 1) c (S ++ [q]) ∧ Below W.heap.size W w') := by
    have hl := HSL.out
    refine (concatInts (X + 1 + 1 + 1) 2 [S, [q]] W2 hP rfl (by omega) (by rw [hfl, List.length_append]; simp; omega)).mono ?_
    rintro e w' ⟨v, rfl, ho, hb⟩
    rw [hfl, show (S ++ [q]).length = nk + 1 by rw [List.length_append, hl]; rfl] at ho
    obtain ⟨g, c, rfl⟩ := ownsRow_succ ho
    refine ⟨g, c, rfl, (intsIn_row ho (by rw [List.length_append, hl]; rfl) (fun z hz => ?_)).lower k2.size, k2.trans (hb.mono k2.size)⟩
    rcases List.mem_append.1 hz with h | h
    · exact HSW.out z h
    · rw [List.mem_singleton] at h; subst h; exact hq
  clear hP hfl ka kb2 k2
  have HSZ : Hid (W.heap.size = X + 1 + 1) := hsz
  go_enter Tryz.func43, Tryz.ntmps43
  by_cases h4 : nk < 4
  · have h4I : (nk : Int) < 4 := by omega
    go_wp2_with fail
    rw [← hX, ← hW]
    clear hX hW
    refine (CC.out _ (Below.refl _ _)).mono ?_
    rintro e w1 ⟨rfl, hw1⟩
    have hw1 := hw1.symm
    subst hw1
    go_wp2_with fail
    try simp only [hsz]
    rw [← hW2]
    clear hW2 x0 x1 x2 x3 x4 x5 xf xz hsz
    refine CN.out.mono ?_
    rintro e w3 ⟨g, c, rfl, hI3, hb3⟩
    have HI3 : Hid (IntsIn W.heap.size w3 (some ⟨g, 0, none⟩) (nk + 1) c (S ++ [q])) := hI3
    have HB3 : Hid (Below W.heap.size W w3) := hb3
    have b3 := bx.keep hb3
    have r3 := br.keep hb3
    have HR3 : Hid (Box6 w3 (X + 1) (.int .i64 0) (.slice none 0 0) (.slice none 0 0) (.slice none 0 0) (.slice none 0 0) (.slice none 0 0)) := r3
    have x0 := b3.c0
    have x1 := b3.c1
    have x2 := b3.c2
    have x3 := b3.c3
    have x4 := b3.c4
    have x5 := b3.c5
    have xf := b3.fz
    have xz := b3.lt
    have y0 := r3.c0
    have y1 := r3.c1
    have y2 := r3.c2
    have y3 := r3.c3
    have y4 := r3.c4
    have y5 := r3.c5
    have yf := r3.fz
    have yz := r3.lt
    clear hI3 hb3 b3 r3 bx br CN CC
    go_wp2
    refine bodyPost_ret (v := .tuple #[.agg #[.int .i64 q, .slice am nm cm, .slice a0 n0 c0, .slice a1 n1 c1, .slice a2 n2 c2, .slice (some ⟨g, 0, none⟩) (nk + 1) c], .bool (!Z)]) ?_ rfl ⟨g, c, ?_, ?_, ?_⟩
    · have e := (((((HR3.out.other (b' := X) (o := 5) (by omega) (.slice (some ⟨g, 0, none⟩) (nk + 1) c)).set0 (.int .i64 q)).set1 (.slice am nm cm)).set2 (.slice a0 n0 c0)).set3 (.slice a1 n1 c1)).set4 (.slice a2 n2 c2) |>.set5 (.slice (some ⟨g, 0, none⟩) (nk + 1) c)
      simp [results, Tryz.results43, go_sem, e.c0, e.c1, e.c2, e.c3, e.c4, e.c5]
    · simp [h4]
    · have hx := HX.out
      have hs := HSZ.out
      have hset : ∀ (w' : World) (b o : Nat) (u : Value), b < W.heap.size → Same W.heap.size w' (w'.setCell ⟨b, o, none⟩ u) := fun w' b o u hb => Same.of_set _ _ hb
      exact ((((((((HI3.out.same (hset _ X _ _ (by omega))).same (hset _ (X + 1) _ _ (by omega))).same (hset _ (X + 1) _ _ (by omega))).same (hset _ (X + 1) _ _ (by omega))).same (hset _ (X + 1) _ _ (by omega))).same (hset _ (X + 1) _ _ (by omega))).same (hset _ (X + 1) _ _ (by omega)))).lower K0.out.size
    · have hx := HX.out
      exact ((((((((K0.out.trans (HB3.out.mono K0.out.size)).setCell (p := ⟨X, 5, none⟩) (by show _ ≤ X; omega) _).setCell (p := ⟨X + 1, 0, none⟩) (by show _ ≤ X + 1; omega) _).setCell (p := ⟨X + 1, 1, none⟩) (by show _ ≤ X + 1; omega) _).setCell (p := ⟨X + 1, 2, none⟩) (by show _ ≤ X + 1; omega) _).setCell (p := ⟨X + 1, 3, none⟩) (by show _ ≤ X + 1; omega) _).setCell (p := ⟨X + 1, 4, none⟩) (by show _ ≤ X + 1; omega) _).setCell (p := ⟨X + 1, 5, none⟩) (by show _ ≤ X + 1; omega) _)
  · have h4I : ¬ (nk : Int) < 4 := by omega
    go_wp2_with fail
    rw [← hX, ← hW, ← hW2]
    clear hX hW hW2 x0 x1 x2 x3 x4 x5 xf xz hsz
    refine CN.out.mono ?_
    rintro e w3 ⟨g, c, rfl, hI3, hb3⟩
    have HI3 : Hid (IntsIn W.heap.size w3 (some ⟨g, 0, none⟩) (nk + 1) c (S ++ [q])) := hI3
    have HB3 : Hid (Below W.heap.size W w3) := hb3
    have b3 := bx.keep hb3
    have r3 := br.keep hb3
    have HR3 : Hid (Box6 w3 (X + 1) (.int .i64 0) (.slice none 0 0) (.slice none 0 0) (.slice none 0 0) (.slice none 0 0) (.slice none 0 0)) := r3
    have x0 := b3.c0
    have x1 := b3.c1
    have x2 := b3.c2
    have x3 := b3.c3
    have x4 := b3.c4
    have x5 := b3.c5
    have xf := b3.fz
    have xz := b3.lt
    have y0 := r3.c0
    have y1 := r3.c1
    have y2 := r3.c2
    have y3 := r3.c3
    have y4 := r3.c4
    have y5 := r3.c5
    have yf := r3.fz
    have yz := r3.lt
    clear hI3 hb3 b3 r3 bx br CN CC
    go_wp2
    refine bodyPost_ret (v := .tuple #[.agg #[.int .i64 q, .slice am nm cm, .slice a0 n0 c0, .slice a1 n1 c1, .slice a2 n2 c2, .slice (some ⟨g, 0, none⟩) (nk + 1) c], .bool (false)]) ?_ rfl ⟨g, c, ?_, ?_, ?_⟩
    · have e := (((((HR3.out.other (b' := X) (o := 5) (by omega) (.slice (some ⟨g, 0, none⟩) (nk + 1) c)).set0 (.int .i64 q)).set1 (.slice am nm cm)).set2 (.slice a0 n0 c0)).set3 (.slice a1 n1 c1)).set4 (.slice a2 n2 c2) |>.set5 (.slice (some ⟨g, 0, none⟩) (nk + 1) c)
      simp [results, Tryz.results43, go_sem, e.c0, e.c1, e.c2, e.c3, e.c4, e.c5]
    · simp [h4]
    · have hx := HX.out
      have hs := HSZ.out
      have hset : ∀ (w' : World) (b o : Nat) (u : Value), b < W.heap.size → Same W.heap.size w' (w'.setCell ⟨b, o, none⟩ u) := fun w' b o u hb => Same.of_set _ _ hb
      exact ((((((((HI3.out.same (hset _ X _ _ (by omega))).same (hset _ (X + 1) _ _ (by omega))).same (hset _ (X + 1) _ _ (by omega))).same (hset _ (X + 1) _ _ (by omega))).same (hset _ (X + 1) _ _ (by omega))).same (hset _ (X + 1) _ _ (by omega))).same (hset _ (X + 1) _ _ (by omega)))).lower K0.out.size
    · have hx := HX.out
      exact ((((((((K0.out.trans (HB3.out.mono K0.out.size)).setCell (p := ⟨X, 5, none⟩) (by show _ ≤ X; omega) _).setCell (p := ⟨X + 1, 0, none⟩) (by show _ ≤ X + 1; omega) _).setCell (p := ⟨X + 1, 1, none⟩) (by show _ ≤ X + 1; omega) _).setCell (p := ⟨X + 1, 2, none⟩) (by show _ ≤ X + 1; omega) _).setCell (p := ⟨X + 1, 3, none⟩) (by show _ ≤ X + 1; omega) _).setCell (p := ⟨X + 1, 4, none⟩) (by show _ ≤ X + 1; omega) _).setCell (p := ⟨X + 1, 5, none⟩) (by show _ ≤ X + 1; omega) _)
end Go.Proofs.YtlmgojlffgkciaaGreat
