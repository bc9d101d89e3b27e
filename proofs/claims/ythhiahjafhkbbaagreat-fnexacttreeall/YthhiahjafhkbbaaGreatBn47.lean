/-
  The document's MergeAll: entries of several lists put in order one by one, by a walk of its Go text.
  TreeAll: what the program's and the document's answer at every tree, by walks of their Go text.
  The laws' copy of a run, in memory of the call's own, by a walk of their Go text.
-/
import Derived.Test.YthhiahjafhkbbaaGreatBn14
import Derived.Test.YthhiahjafhkbbaaGreatBn22
import Derived.Test.YthhiahjafhkbbaaGreatBn28
import Derived.Test.YthhiahjafhkbbaaGreatBn33
import Derived.Test.YthhiahjafhkbbaaGreatBn30
import Derived.Test.YthhiahjafhkbbaaGreatBn46
import Derived.Test.YthhiahjafhkbbaaGreatBn20
import Derived.Test.YthhiahjafhkbbaaGreatBn24
namespace Go.Proofs.YthhiahjafhkbbaaGreat
open Go.RowKit

theorem sort_snoc (L : List EntD) (e : EntD) : sortE (L ++ [e]) = putE (sortE L) e := by simp [sortE]
theorem sort_len : ∀ L : List EntD, (sortE L).length = L.length := by
  intro L
  have : ∀ (R A : List EntD), (R.foldl putE A).length = A.length + R.length := by
    intro R
    induction R with
    | nil => intro A; rfl
    | cons x R ih => intro A; rw [List.foldl_cons, ih, putE_len, List.length_cons]; omega
  have h := this L []
  simpa [sortE] using h
theorem flat_snoc {P : List (List EntD)} {i : Nat} {L : List EntD} (_h : P[i]? = some L) (k : Nat) {e : EntD} (he : L[k]? = some e) : (P.take i).flatten ++ L.take (k + 1) = ((P.take i).flatten ++ L.take k) ++ [e] := by
  rw [List.take_add_one, he]
  simp
theorem flat_next {P : List (List EntD)} {i : Nat} {L : List EntD} (h : P[i]? = some L) : (P.take (i + 1)).flatten = (P.take i).flatten ++ L.take L.length := by
  rw [List.take_add_one, h]
  simp
theorem mFlat_le {P : List (List EntD)} {i k : Nat} {L : List EntD} (h : P[i]? = some L) : ((P.take i).flatten ++ L.take k).length ≤ P.flatten.length := by
  have h1 : P.flatten = (P.take (i + 1)).flatten ++ (P.drop (i + 1)).flatten := by rw [← List.flatten_append, List.take_append_drop]
  rw [h1, flat_next h, List.length_append, List.length_append, List.length_append, List.length_take, List.length_take]
  omega

set_option maxRecDepth 100000 in
set_option maxHeartbeats 4000000 in
theorem specMerge (a : Option Addr) (n c : Nat) (P : List (List EntD)) (w : World) (hP : PartsAt w a n c P) (hsum : P.flatten.length ≤ 1048576) :
    Calls Tryz.prog 68 #[.slice a n c] w fun e w' => ∃ g cg, e = .returned (.slice (some ⟨g, 0, none⟩) P.flatten.length cg) ∧ OwnE w' w.heap.size g P.flatten.length cg (sortE P.flatten) ∧ Below w.heap.size w w' := by
  have HP : Hid (PartsAt w a n c P) := hP
  have HLN : Hid (P.length = n) := hP.length
  have HSU : Hid (P.flatten.length ≤ 1048576) := hsum
  have hroom := hP.room
  have hbig := hP.big
  unfold maxLen at hbig
  clear hP hsum
  obtain ⟨N, hN⟩ : ∃ N, P.flatten.length = N := ⟨_, rfl⟩
  have HN : Hid (P.flatten.length = N) := hN
  rw [hN]
  clear hN
  go_enter Tryz.func68, Tryz.ntmps68
  go_wp2
  go_loopw [3, 4] (fun ov iv wr => ∃ (i g cg m : Nat) (F : List EntD), i ≤ n ∧ iv = .int .i64 i ∧ F = (P.take i).flatten ∧ F.length = m ∧ ov = .slice (some ⟨g, 0, none⟩) m cg ∧ OwnE wr w.heap.size g m cg (sortE F) ∧ Below w.heap.size w wr) (fun _ iv _ => n - (intOf iv).toNat)
  case atStart => exact ⟨0, w.heap.size, 0, 0, [], Nat.zero_le _, rfl, by simp, rfl, rfl, own_empty w _ (Nat.le_refl _), (Below.refl _ _).alloc (Nat.le_refl _) _⟩
  case round =>
    obtain ⟨i, g, cg, m, F, hi, rfl, hF, hFm, rfl, hO, hb⟩ := hrel
    have HF : Hid (F = (P.take i).flatten) := hF
    have HFM : Hid (F.length = m) := hFm
    have HO : Hid (OwnE wr w.heap.size g m cg (sortE F)) := hO
    have HB : Hid (Below w.heap.size w wr) := hb
    clear hF hFm hO hb
    by_cases hlt : i < n
    · have hltI : (i : Int) < (n : Int) := by omega
      obtain ⟨b, off, rfl, hbb⟩ := HP.out.form (by omega)
      obtain ⟨L, hL⟩ : ∃ L, P[i]? = some L := ⟨_, List.getElem?_eq_getElem (by rw [HLN.out]; exact hlt)⟩
      have HL : Hid (P[i]? = some L) := hL
      clear hL
      go_wp2
      go_loopw [3, 5] (fun ov kv wq => ∃ (k g cg m : Nat) (G : List EntD), k ≤ L.length ∧ kv = .int .i64 k ∧ G = F ++ L.take k ∧ G.length = m ∧ ov = .slice (some ⟨g, 0, none⟩) m cg ∧ OwnE wq w.heap.size g m cg (sortE G) ∧ Below w.heap.size w wq) (fun _ kv _ => L.length - (intOf kv).toNat)
      case atStart => exact ⟨0, g, cg, m, F, Nat.zero_le _, rfl, by simp, HFM.out, rfl, HO.out, HB.out⟩
      case round =>
        clear HO HB HFM
        obtain ⟨k, g, cg, m, G, hk, rfl, hG, hGm, rfl, hO, hb⟩ := hrel
        obtain ⟨L', s, len, cap, hL', c0, hE⟩ := HP.out.list hb i hlt
        rw [HL.out] at hL'
        cases hL'
        have HG : Hid (G = F ++ L.take k) := hG
        have HGM : Hid (G.length = m) := hGm
        have HO : Hid (OwnE wr w.heap.size g m cg (sortE G)) := hO
        have HB : Hid (Below w.heap.size w wr) := hb
        have hLl := hE.length
        have HLL : Hid (L.length = len) := hLl
        have zb : b < wr.heap.size := Nat.lt_of_lt_of_le hbb hb.size
        have hlc := hE.room
        have hcb := hE.big
        unfold maxLen at hcb
        have hm : m ≤ 1048576 := by
          have h1 := mFlat_le (k := k) HL.out
          rw [← HF.out, ← hG] at h1
          have h2 := HSU.out
          omega
        rw [hLl] at hk
        clear hG hGm hO hb hLl
        by_cases hkl : k < len
        · have hklI : (k : Int) < (len : Int) := by omega
          obtain ⟨bs, os, rfl, zs⟩ := hE.form (by omega)
          obtain ⟨es, eq, ed, et, en, hx, hw, e0, e1, e2, e3, e4⟩ := hE.ent (Below.refl _ wr) zs k hkl
          have HX : Hid (L[k]? = some (es, eq, ed, et, en)) := hx
          have CP := specPut g m cg (sortE G) es et eq ed en wr HO.out.entsAt HO.out.lt.2 hm hw
          clear hx hw hE
          go_wp2_with fail
          refine CP.mono ?_
          rintro e w2 ⟨g2, c2, rfl, hO2, hb2⟩
          have HO2 : Hid (OwnE w2 w.heap.size g2 (m + 1) c2 (putE (sortE G) (es, eq, ed, et, en))) := hO2.mono HB.out.size
          have HB2 : Hid (Below w.heap.size w w2) := HB.out.trans (hb2.mono HB.out.size)
          clear hO2 hb2 CP HO HB
          go_wp2
          go_roundw
          case rel =>
            refine ⟨k + 1, g2, c2, m + 1, F ++ L.take (k + 1), by have := HLL.out; omega, by go_num, rfl, ?_, rfl, ?_, HB2.out⟩
            · rw [HF.out, flat_snoc HL.out k HX.out, ← HF.out, ← HG.out, List.length_append, HGM.out]
              rfl
            · rw [HF.out, flat_snoc HL.out k HX.out, ← HF.out, ← HG.out, sort_snoc]
              exact HO2.out
          case measure => have := HLL.out; simp [intOf]; omega
        · have hklI : ¬ (k : Int) < (len : Int) := by omega
          have HKL : Hid (k = L.length) := by have := HLL.out; show k = _; omega
          have wi : IntKind.i64.wrap ((i : Int) + 1) = ((i + 1 : Nat) : Int) := by rw [IntWalk.i64_left]; unfold wrap64; omega
          go_wp2
          go_roundw
          case rel =>
            refine ⟨i + 1, g, cg, m, G, by omega, by first | rfl | go_num, ?_, HGM.out, rfl, HO.out, HB.out⟩
            rw [flat_next HL.out, HG.out, HF.out, HKL.out]
          case measure => simp [intOf]; omega
    · have hin : i = n := by omega
      have hltI : ¬ (i : Int) < (n : Int) := by omega
      have HFA : Hid (F = P.flatten) := by show F = _; rw [HF.out, List.take_of_length_le (by rw [HLN.out]; omega)]
      clear hin
      go_wp2
      go_ret
      have h1 := HFM.out
      have h2 := HO.out
      rw [HFA.out] at h1 h2
      obtain rfl : N = m := by have := HN.out; omega
      exact ⟨g, cg, rfl, h2, HB.out⟩
end Go.Proofs.YthhiahjafhkbbaaGreat

namespace Go.Proofs.YthhiahjafhkbbaaGreat
open Go.RowKit

theorem parts_of_hdrs {w : World} {base g n c : Nat} {vs : List Value} {P : List (List EntD)} (ho : w.ownsRow base 23 1 (.slice (some ⟨g, 0, none⟩) n c) n vs) (hh : HdrsAt w vs P) : PartsAt w (some ⟨g, 0, none⟩) n c P := by
  have hrc := row_rooms ho
  have hl : P.length = n := by have h1 := ho.1; have h2 := hh.1; omega
  refine ⟨hl, hrc.1, hrc.2, (fun e => by cases e), ?_, ?_⟩
  · rintro x e _
    cases e
    exact ⟨(ho.lt g rfl).2, rfl⟩
  · rintro x e i hi
    cases e
    obtain ⟨s, m, d, h1, h2⟩ := hh.2 i P[i] (List.getElem?_eq_getElem hi)
    refine ⟨s, m, d, ?_, h2⟩
    simp only [Nat.zero_add]
    exact (ho.cellAt i (by omega)).trans h1

/-- What the program's TreeAll answers. -/
def AllR (w : World) (F : List EntD) (e : Ending) (w' : World) : Prop := (∃ a n, e = .returned (.slice a n n) ∧ OwnO w' w.heap.size a n n F) ∧ Below w.heap.size w w'

set_option maxRecDepth 100000 in
set_option maxHeartbeats 4000000 in
theorem implTreeAll (lo : Nat) (sq : Int) (am av ak : Option Addr) (nm cm nv cv nk ck : Nat) (M : List EntD) (V : List (List RunD)) (S : List Int) (w : World) (hT : TreeIn lo w am nm cm av nv cv ak nk ck M V S) (hsz : M.length + (szV V + V.length) ≤ 1048576) (hsm : ∀ e ∈ M, SmT e) (hsv : ∀ B ∈ V, SmB B) :
    Calls Tryz.prog 23 #[.agg #[.int .i64 sq, .slice am nm cm, .slice av nv cv, .slice ak nk ck]] w (AllR w (allL sq M V S)) := by
  have HVN : Hid (V.length = nv) := hT.levels.length
  have kA : ∀ o, Below w.heap.size w (w.alloc o) := fun o => (Below.refl _ _).alloc (Nat.le_refl _) o
  by_cases hn : nv = 3
  · subst hn
    obtain ⟨A, B, C, hV3⟩ : ∃ A B C, V = [A, B, C] := by
      have := HVN.out
      match V, this with
      | [A, B, C], _ => exact ⟨A, B, C, rfl⟩
    subst hV3
    obtain ⟨b, off, rfl, hbb⟩ := hT.levels.form (by omega)
    obtain ⟨A', a0, n0, c0, hA, l0, hR0⟩ := hT.levels.level (Below.refl _ w) 0 (by omega)
    obtain ⟨B', a1, n1, c1, hB, l1, hR1⟩ := hT.levels.level (Below.refl _ w) 1 (by omega)
    obtain ⟨C', a2, n2, c2, hC, l2, hR2⟩ := hT.levels.level (Below.refl _ w) 2 (by omega)
    simp only [List.getElem?_cons_zero, List.getElem?_cons_succ, Option.some.injEq] at hA hB hC
    subst hA hB hC
    rw [Nat.add_zero] at l0
    obtain ⟨Z, hZ⟩ : ∃ Z, Z = treeB sq M [A, B, C] S := ⟨_, rfl⟩
    have HCS : Hid (∀ w', Below w.heap.size w w' → Calls Tryz.prog 70 #[.agg #[.int .i64 sq, .slice am nm cm, .slice (some ⟨b, off, none⟩) 3 cv, .slice ak nk ck]] w' fun e w'' => e = .returned (.tuple #[.agg #[.int .i64 sq, .slice am nm cm, .slice a0 n0 c0, .slice a1 n1 c1, .slice a2 n2 c2, .slice ak nk ck], .bool Z]) ∧ Below w'.heap.size w' w'') := fun w' k => by
      rw [hZ]
      exact implShare lo sq am ak nm cm b off cv nk ck M A B C S a0 a1 a2 n0 c0 n1 c1 n2 c2 w' (hT.mem.1.keep k) (hT.snaps.keep k) (hR0.keep k) (hR1.keep k) (hR2.keep k) (cell_later k l0) (cell_later k l1) (cell_later k l2)
    cases Z with
    | false =>
      have HF : Hid (allL sq M [A, B, C] S = []) := by show allL _ _ _ _ = _; unfold allL; rw [← hZ]; rfl
      clear hZ hT HVN l0 l1 l2 hR0 hR1 hR2 hbb hsz hsm hsv
      go_enter Tryz.func23, Tryz.ntmps23
      go_wp2_with fail
      refine (HCS.out _ (kA _)).mono ?_
      rintro e w1 ⟨rfl, hb1⟩
      have K1 : Hid (Below w.heap.size w w1) := (kA _).trans (hb1.mono (kA _).size)
      clear hb1 kA HCS
      go_wp2
      go_ret
      exact ⟨⟨none, 0, rfl, by rw [HF.out]; exact OwnO.none _ _⟩, K1.out.alloc K1.out.size _⟩
    | true =>
      have hq := (tree_impl sq M A B C S).1 hZ.symm
      have hTB := hZ.symm
      obtain ⟨P, hP⟩ : ∃ P, P = listsL M A B C := ⟨_, rfl⟩
      have HF : Hid (allL sq M [A, B, C] S = sortE P.flatten) := by show allL _ _ _ _ = _; unfold allL; rw [if_pos hTB, ← sort_tree hTB, hP]
      have hpl := (lists_flat M A B C).length_eq
      have htl := tree_len M A B C
      have hts := tree_sm hsm hsv
      have hPm : ∀ e ∈ P.flatten, SmT e := fun e he => hts e ((lists_flat M A B C).mem_iff.1 (by rw [← hP]; exact he))
      have hPn : P.flatten.length ≤ 1048576 := by rw [hP]; omega
      have hsl : n0 ≤ 8 ∧ n1 ≤ 8 ∧ n2 ≤ 8 := by
        have h6 := hq.2.2.2.2.2.1
        have hI : levelsI A B C = true → ((A.length : Int) ≤ 4) ∧ ((B.length : Int) ≤ 8) ∧ ((C.length : Int) ≤ 8) := by
          unfold levelsI ok0 ok1
          simp only [Bool.and_eq_true, decide_eq_true_eq, Bool.not_eq_true']
          rintro ⟨⟨h1, _⟩, ⟨h2, _⟩, h3, _⟩
          exact ⟨h1, h2, h3⟩
        have h7 := hI h6
        have e0 := hR0.length
        have e1 := hR1.length
        have e2 := hR2.length
        omega
      have CL : Hid (∀ w', Below w.heap.size w w' → Calls Tryz.prog 71 #[.agg #[.int .i64 sq, .slice am nm cm, .slice a0 n0 c0, .slice a1 n1 c1, .slice a2 n2 c2, .slice ak nk ck]] w' (ListsR w w' P)) := fun w' k => by
        rw [hP]
        exact callsIn_wide.1 (implLists lo sq am ak nm cm nk ck a0 a1 a2 n0 c0 n1 c1 n2 c2 M A B C w w' k hT.mem.1 hR0 hR1 hR2 hsl.1 hsl.2.1 hsl.2.2)
      have hpc : P.length ≤ 1048576 := by
        have e0 := hR0.length
        have e1 := hR1.length
        have e2 := hR2.length
        rw [hP]
        simp [listsL]
        omega
      have CM : Hid (∀ (g n c : Nat) (w' : World), PartsAt w' (some ⟨g, 0, none⟩) n c P → Calls Tryz.prog 11 #[.slice (some ⟨g, 0, none⟩) n c] w' (MergeR w' P)) := fun g n c w' h => callsIn_wide.1 (implMerge _ _ _ P w' h (by have := h.length; omega) hPn hPm)
      clear hZ hT HVN l0 l1 l2 hR0 hR1 hR2 hbb hsz hsm hsv hP hq hTB hpl htl hts hPm hPn hsl hpc
      go_enter Tryz.func23, Tryz.ntmps23
      go_wp2_with fail
      refine (HCS.out _ (kA _)).mono ?_
      rintro e w1 ⟨rfl, hb1⟩
      have K1 : Hid (Below w.heap.size w w1) := (kA _).trans (hb1.mono (kA _).size)
      clear hb1 kA HCS
      go_wp2_with fail
      refine (CL.out _ (K1.out.alloc K1.out.size _)).mono ?_
      rintro e w2 ⟨⟨g, n, c, vs, rfl, ho, hh⟩, hb2⟩
      have K2 : Hid (Below w.heap.size w w2) := (K1.out.alloc K1.out.size _).trans (hb2.mono (K1.out.alloc K1.out.size _).size)
      have HP2 : Hid (PartsAt w2 (some ⟨g, 0, none⟩) n c P) := parts_of_hdrs ho (hh.keep K2.out)
      clear ho hh hb2
      go_wp2_with fail
      refine (CM.out _ _ _ _ HP2.out).mono ?_
      rintro e w3 ⟨⟨g3, rfl, hO3⟩, hb3⟩
      obtain ⟨m, hm⟩ : ∃ m, m = P.flatten.length := ⟨_, rfl⟩
      rw [← hm] at hO3 ⊢
      have HO3 : Hid (OwnE w3 w.heap.size g3 m m (sortE P.flatten)) := hO3.mono K2.out.size
      have K3 : Hid (Below w.heap.size w w3) := K2.out.trans (hb3.mono K2.out.size)
      clear hO3 hb3 HP2 hm
      go_wp2
      go_ret
      exact ⟨⟨_, m, rfl, by rw [HF.out]; exact OwnO.some HO3.out⟩, K3.out⟩
  · have HZ : Hid (treeB sq M V S = false) := tree_no (fun h => hn (by have := (tree_parts h).2.2.2.2.2.1; have := HVN.out; omega))
    have HF : Hid (allL sq M V S = []) := by show allL _ _ _ _ = _; unfold allL; rw [HZ.out]; rfl
    clear hT HVN hsz hsm hsv
    go_enter Tryz.func23, Tryz.ntmps23
    go_wp2_with fail
    refine (implShareNo sq am av ak nm cm nv cv nk ck _ hn).mono ?_
    rintro e w1 ⟨rfl, hb1⟩
    have K1 : Hid (Below w.heap.size w w1) := (kA _).trans (hb1.mono (kA _).size)
    clear hb1 kA
    go_wp2
    go_ret
    exact ⟨⟨none, 0, rfl, by rw [HF.out]; exact OwnO.none _ _⟩, K1.out.alloc K1.out.size _⟩

set_option maxRecDepth 100000 in
set_option maxHeartbeats 4000000 in
theorem specTreeAll (lo : Nat) (sq : Int) (am av ak : Option Addr) (nm cm nv cv nk ck : Nat) (M : List EntD) (V : List (List RunD)) (S : List Int) (w : World) (hT : TreeIn lo w am nm cm av nv cv ak nk ck M V S) (hsz : M.length + (szV V + V.length) ≤ 1048576) :
    Calls Tryz.prog 22 #[.agg #[.int .i64 sq, .slice am nm cm, .slice av nv cv, .slice ak nk ck]] w fun e w' => ∃ g n c, e = .returned (.slice (some ⟨g, 0, none⟩) n c) ∧ OwnE w' w.heap.size g n c (allL sq M V S) ∧ Below w.heap.size w w' := by
  obtain ⟨X, hX⟩ : ∃ X, X = w.heap.size := ⟨_, rfl⟩
  obtain ⟨W, hW⟩ : ∃ W, W = w.alloc (.cells #[.int .i64 sq, .slice am nm cm, .slice av nv cv, .slice ak nk ck] 44) := ⟨_, rfl⟩
  have kW : Below w.heap.size w W := by rw [hW]; exact (Below.refl _ _).alloc (Nat.le_refl _) _
  have bx : Box4 W X (.int .i64 sq) (.slice am nm cm) (.slice av nv cv) (.slice ak nk ck) := by rw [hW, hX]; exact Box4.new _ _ _ _ _ _
  have K0 : Hid (Below w.heap.size w W) := kW
  have H : Hid (TreeIn lo w am nm cm av nv cv ak nk ck M V S) := hT
  obtain ⟨Z, hZ⟩ : ∃ Z, Z = treeB sq M V S := ⟨_, rfl⟩
  have CO : Hid (∀ w', Below w.heap.size w w' → Calls Tryz.prog 52 #[.agg #[.int .i64 sq, .slice am nm cm, .slice av nv cv, .slice ak nk ck]] w' fun e w'' => e = .returned (.bool Z) ∧ Below w'.heap.size w' w'') := fun w' k => by
    rw [hZ]
    exact specTreeOk lo sq _ _ _ _ _ _ _ _ _ M V S w' (hT.keep k)
  cases Z with
  | false =>
    have HF : Hid (allL sq M V S = []) := by show allL _ _ _ _ = _; unfold allL; rw [← hZ]; rfl
    clear hT kW hsz hZ
    go_enter Tryz.func22, Tryz.ntmps22
    go_wp2_with fail
    rw [← hW]
    clear hW hX
    refine (CO.out _ K0.out).mono ?_
    rintro e w1 ⟨rfl, hb1⟩
    have K1 : Hid (Below w.heap.size w w1) := K0.out.trans (hb1.mono K0.out.size)
    clear hb1 bx
    go_wp2
    go_ret
    exact ⟨_, 0, 0, rfl, by rw [HF.out]; exact own_empty _ _ K1.out.size, K1.out.alloc K1.out.size _⟩
  | true =>
    have hTB := hZ.symm
    obtain ⟨P, hP⟩ : ∃ P, P = partsL M V := ⟨_, rfl⟩
    have HF : Hid (allL sq M V S = sortE P.flatten) := by show allL _ _ _ _ = _; unfold allL; rw [if_pos hTB, hP]
    obtain ⟨A, B, C, hV3⟩ := three_of hTB
    have hPn : P.flatten.length ≤ 1048576 := by
      rw [hP, hV3, (parts_flat M A B C).length_eq]
      have := tree_len M A B C
      rw [hV3] at hsz
      omega
    have hlv : ∀ B ∈ V, B.length ≤ 100 ∧ ∀ r ∈ B, 1 ≤ r.1.length ∧ r.1.length ≤ 10000 := by
      have h8 : levelsB V sq = true := (tree_parts hTB).2.2.2.2.2.2.2.1
      rw [hV3] at h8 ⊢
      unfold levelsB at h8
      simp only [Bool.and_eq_true] at h8
      intro Z hZm
      simp only [List.mem_cons, List.not_mem_nil, or_false] at hZm
      rcases hZm with rfl | rfl | rfl
      · exact runs_small h8.1 (by omega)
      · exact runs_small h8.2.1 (by omega)
      · exact runs_small h8.2.2 (by omega)
    have hnv : nv = 3 := by have h1 := hT.levels.length; rw [hV3] at h1; exact h1.symm
    have CP : Hid (∀ w', Below w.heap.size w w' → Calls Tryz.prog 69 #[.agg #[.int .i64 sq, .slice am nm cm, .slice av nv cv, .slice ak nk ck]] w' fun e w'' => ∃ a n c, e = .returned (.slice a n c) ∧ PartsAt w'' a n c P ∧ Below w'.heap.size w' w'') := fun w' k => by
      rw [hP]
      exact specParts lo sq _ _ _ _ _ _ _ _ _ M V S w' (hT.keep k) (by omega) (by omega) hlv
    clear hT kW hsz hZ hP hTB hV3 hlv hnv
    go_enter Tryz.func22, Tryz.ntmps22
    go_wp2_with fail
    rw [← hW]
    try rw [← hX]
    clear hW hX
    refine (CO.out _ K0.out).mono ?_
    rintro e w1 ⟨rfl, hb1⟩
    have K1 : Hid (Below w.heap.size w w1) := K0.out.trans (hb1.mono K0.out.size)
    have b1 := bx.keep hb1
    have x0 := b1.c0
    have x1 := b1.c1
    have x2 := b1.c2
    have x3 := b1.c3
    have xz := b1.lt
    clear hb1 bx b1
    go_wp2_with fail
    clear x0 x1 x2 x3 xz
    refine (CP.out _ K1.out).mono ?_
    rintro e w2 ⟨a, n, c, rfl, hP2, hb2⟩
    have K2 : Hid (Below w.heap.size w w2) := K1.out.trans (hb2.mono K1.out.size)
    have HP2 : Hid (PartsAt w2 a n c P) := hP2
    clear hb2 hP2
    go_wp2_with fail
    refine (specMerge _ _ _ P _ HP2.out hPn).mono ?_
    rintro e w3 ⟨g, cg, rfl, hO3, hb3⟩
    obtain ⟨m, hm⟩ : ∃ m, m = P.flatten.length := ⟨_, rfl⟩
    rw [← hm] at hO3 ⊢
    have HO3 : Hid (OwnE w3 w.heap.size g m cg (sortE P.flatten)) := hO3.mono K2.out.size
    have K3 : Hid (Below w.heap.size w w3) := K2.out.trans (hb3.mono K2.out.size)
    clear hO3 hb3 HP2 hm
    go_wp2
    go_ret
    exact ⟨g, m, cg, rfl, by rw [HF.out]; exact HO3.out, K3.out⟩
end Go.Proofs.YthhiahjafhkbbaaGreat

namespace Go.Proofs.YthhiahjafhkbbaaGreat
open Go.RowKit

set_option maxHeartbeats 400000 in
theorem toRun_own (m : Int) (a : Option Addr) (len cap : Nat) (L : List EntD) (w : World) (hL : EntsAt w a len cap L) (hbig : len ≤ 1048576) :
    Calls Tryz.prog 132 #[.agg #[.slice a len cap, .int .i64 m]] w fun e w' => ∃ b, e = .returned (.agg #[.slice (some ⟨b, 0, none⟩) len len, .int .i64 m]) ∧ w.heap.size ≤ b ∧ b < w'.heap.size ∧ OwnE w' w.heap.size b len len L ∧ Below w.heap.size w w' := by
  go_enter Tryz.func132, Tryz.ntmps132
  go_wp2_with fail
  refine (toEntS_own _ _ _ L _ (hL.keep ?_) hbig).mono ?_
  · exact (((Below.refl _ _).alloc (Nat.le_refl _) _).alloc (by simp) _).alloc (by simp; omega) _
  rintro e w1 ⟨rfl, hL1, hlt1, hb1⟩
  simp only [World.size_alloc] at hlt1
  obtain ⟨hc1, hf1⟩ := bcell hb1
  have hz := hb1.size
  simp at hz
  have HL1 : Hid (OwnE w1 w.heap.size (w.heap.size + 1 + 1 + 1) len len L) := by
    have := hL1.mono (base' := w.heap.size) (by simp; omega)
    simpa [Hid] using this
  have HZ : Hid (w.heap.size + 1 + 1 + 1 < w1.heap.size) := hlt1
  clear hL1 hlt1
  go_wp2
  refine bodyPost_ret (v := .agg #[.slice (some ⟨w.heap.size + 1 + 1 + 1, 0, none⟩) len len, .int .i64 m]) (by simp [results, Tryz.results132, go_sem, hc1]) rfl ⟨w.heap.size + 1 + 1 + 1, rfl, by omega, by simpa [World.setCell] using HZ.out, ?_, ?_⟩
  · refine ((((HL1.out.setCell ?_ _).setCell ?_ _).setCell ?_ _).setCell ?_ _) <;> (simp; try omega)
  · have hB : Below w.heap.size w w1 := ((((Below.refl _ _).alloc (Nat.le_refl _) _).alloc (by simp) _).alloc (by simp; omega) _).trans (hb1.mono (by simp; omega))
    exact ((((hB.setCell (p := ⟨w.heap.size + 1 + 1, 0, none⟩) (by simp; omega) _).setCell (p := ⟨w.heap.size + 1 + 1, 1, none⟩) (by simp; omega) _).setCell (p := ⟨w.heap.size + 1, 0, none⟩) (by simp) _).setCell (p := ⟨w.heap.size + 1, 1, none⟩) (by simp) _)

end Go.Proofs.YthhiahjafhkbbaaGreat
