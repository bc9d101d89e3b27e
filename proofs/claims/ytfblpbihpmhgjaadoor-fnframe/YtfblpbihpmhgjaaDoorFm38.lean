/-
  Lists of entries in memory of a call's own, marked and held, by walks of the law's Go text.
-/
import Derived.Test.YtfblpbihpmhgjaaDoorFm37
import Derived.Test.YtfblpbihpmhgjaaDoorFm31
import Derived.Test.YtfblpbihpmhgjaaDoorFm35
import Derived.Test.YtfblpbihpmhgjaaDoorFm36
namespace Go.Proofs.YtfblpbihpmhgjaaDoor
open Go.RowKit

def rowsV (gs : List Nat) (P : List (List EntD)) : List Value := (gs.zip P).map (fun x => .slice (some ⟨x.1, 0, none⟩) x.2.length x.2.length)
theorem rowsV_at {gs : List Nat} {P : List (List EntD)} {i g : Nat} {L : List EntD} (h1 : gs[i]? = some g) (h2 : P[i]? = some L) : (rowsV gs P)[i]? = some (.slice (some ⟨g, 0, none⟩) L.length L.length) := by
  rw [rowsV, List.getElem?_map, List.getElem?_zip_eq_some (z := (g, L)) |>.2 ⟨h1, h2⟩]
  rfl
/-- The lists P lie in rows of the call's own, list number i in block gs[i]; v is the row of the rows. -/
structure PartsZ (w : World) (base : Nat) (v : Value) (gs : List Nat) (P : List (List EntD)) : Prop where
  row : w.ownsRow base 40 1 v P.length (rowsV gs P)
  len : gs.length = P.length
  own : ∀ (i g : Nat) (L : List EntD), gs[i]? = some g → P[i]? = some L → OwnE w base g L.length L.length L
  nd : ∀ (i j g : Nat), gs[i]? = some g → gs[j]? = some g → i = j
theorem PartsZ.below {w w' : World} {base : Nat} {v : Value} {gs : List Nat} {P : List (List EntD)} (h : PartsZ w base v gs P) (hb : Below w.heap.size w w') : PartsZ w' base v gs P :=
  ⟨rowStay h.row hb, h.len, fun i g L h1 h2 => (h.own i g L h1 h2).below hb, h.nd⟩
theorem PartsZ.off {w : World} {base : Nat} {v : Value} {gs : List Nat} {P : List (List EntD)} (h : PartsZ w base v gs P) {i g : Nat} {L : List EntD} (h1 : gs[i]? = some g) (h2 : P[i]? = some L) : v.ownBlock ≠ some g :=
  rows_ne (h.own i g L h1 h2).owns h.row (by decide) rfl
theorem PartsZ.at {w : World} {base : Nat} {v : Value} {gs : List Nat} {P : List (List EntD)} (h : PartsZ w base v gs P) {i : Nat} (hi : i < P.length) : ∃ g L, gs[i]? = some g ∧ P[i]? = some L := by
  have h1 := h.len
  exact ⟨_, _, List.getElem?_eq_getElem (by omega), List.getElem?_eq_getElem hi⟩
theorem PartsZ.form {w : World} {base : Nat} {v : Value} {gs : List Nat} {P : List (List EntD)} (h : PartsZ w base v gs P) : ∃ a c, v = .slice a P.length c := by
  rcases h.row.2 with ⟨hv, h0⟩ | ⟨g, cap, cur, hv, _⟩
  · exact ⟨none, 0, by rw [hv, h0]⟩
  · exact ⟨_, cap, hv⟩
theorem PartsZ.partsAt {w : World} {base c : Nat} {a : Option Addr} {gs : List Nat} {P : List (List EntD)} {n : Nat} (h : PartsZ w base (.slice a n c) gs P) (hn : n = P.length) : PartsAt w a n c P := by
  subst hn
  rcases h.row.2 with ⟨hv, h0⟩ | ⟨g, cap, cur, hv, _, _, h3, h4, _, _⟩
  · have hP : P = [] := List.length_eq_zero_iff.1 h0
    subst hP
    cases hv
    exact ⟨rfl, Nat.le_refl _, by unfold maxLen; omega, fun _ => rfl, fun x e => (by cases e), fun x e => (by cases e)⟩
  · cases hv
    refine ⟨rfl, h3, h4, fun e => (by cases e), fun x e _ => ?_, fun x e i hi => ?_⟩
    · cases e
      exact ⟨(h.row.lt g rfl).2, rfl⟩
    · cases e
      obtain ⟨q, L, h5, h6⟩ := h.at hi
      have hL : P[i] = L := Option.some.inj ((List.getElem?_eq_getElem hi).symm.trans h6)
      refine ⟨_, _, _, ?_, by rw [hL]; exact (h.own i q L h5 h6).entsAt⟩
      have hc := h.row.cellAt i (by omega)
      rw [rowsV_at h5 h6] at hc
      simpa using hc
theorem rowsV_len {gs : List Nat} {P Q : List (List EntD)} (h : P.map List.length = Q.map List.length) : rowsV gs P = rowsV gs Q := by
  induction gs generalizing P Q with
  | nil => rfl
  | cons g gs ih =>
    cases P with
    | nil =>
      cases Q with
      | nil => rfl
      | cons y q => simp at h
    | cons x p =>
      cases Q with
      | nil => simp at h
      | cons y q =>
        simp only [List.map_cons, List.cons.injEq] at h
        have := ih h.2
        simp only [rowsV] at this
        simp only [rowsV, List.zip_cons_cons, List.map_cons, h.1, this]
/-- One list is written anew. -/
theorem PartsZ.set {w w' : World} {base : Nat} {v : Value} {gs : List Nat} {A R : List (List EntD)} {L L' : List EntD} {g : Nat} (h : PartsZ w base v gs (A ++ L :: R)) (hg : gs[A.length]? = some g) (hw : w.grownBy w' (some g)) (hL : L'.length = L.length) (hO : OwnE w' base g L.length L.length L') : PartsZ w' base v gs (A ++ L' :: R) := by
  have hat : (A ++ L :: R)[A.length]? = some L := by simp
  have hoff := h.off hg hat
  have hlen : (A ++ L' :: R).map List.length = (A ++ L :: R).map List.length := by simp [hL]
  refine ⟨?_, by simpa using h.len, fun i q K h1 h2 => ?_, h.nd⟩
  · rw [rowsV_len hlen]
    have : (A ++ L' :: R).length = (A ++ L :: R).length := by simp
    rw [this]
    exact h.row.kept hw (.inr hoff)
  · by_cases hi : i = A.length
    · subst hi
      have hK : K = L' := by have h3 : (A ++ L' :: R)[A.length]? = some L' := by simp
                             exact (Option.some.inj (h3.symm.trans h2)).symm
      have hq : q = g := (Option.some.inj (hg.symm.trans h1)).symm
      subst hK
      subst hq
      rw [hL]
      exact hO
    · have hne : q ≠ g := fun e => hi (h.nd i A.length g (by rw [← e]; exact h1) hg)
      have h2' : (A ++ L :: R)[i]? = some K := by
        rcases Nat.lt_or_gt_of_ne hi with h4 | h4
        · rw [List.getElem?_append_left h4] at h2 ⊢
          exact h2
        · rw [List.getElem?_append_right (by omega)] at h2 ⊢
          obtain ⟨m, hm⟩ : ∃ m, i - A.length = m + 1 := ⟨i - A.length - 1, by omega⟩
          rw [hm] at h2 ⊢
          simpa using h2
      exact (h.own i q K h1 h2').grown hw (fun e => hne (Option.some.inj e))
/-- The lists as the law marks them, from k on. -/
def mrkP : Nat → List (List EntD) → List (List EntD)
  | _, [] => []
  | k, L :: r => markL k L.length :: mrkP (k + 5 * L.length) r
theorem mrkP_append : ∀ (A R : List (List EntD)) (k : Nat), mrkP k (A ++ R) = mrkP k A ++ mrkP (k + 5 * A.flatten.length) R
  | [], R, k => by simp [mrkP]
  | L :: A, R, k => by
    simp only [List.cons_append, mrkP, mrkP_append A R, List.flatten_cons, List.length_append, Nat.mul_add, Nat.add_assoc]
theorem mrkP_len : ∀ (A : List (List EntD)) (k : Nat), (mrkP k A).length = A.length
  | [], _ => rfl
  | L :: A, k => by simp [mrkP, mrkP_len A]

theorem flat_snoc {P : List (List EntD)} {k : Nat} {L : List EntD} (h : P[k]? = some L) : (P.take (k + 1)).flatten.length = (P.take k).flatten.length + L.length := by
  rw [List.take_add_one, h, List.flatten_append, List.length_append]
  simp
theorem flat_le {P : List (List EntD)} {k : Nat} {L : List EntD} (h : P[k]? = some L) : (P.take k).flatten.length + L.length ≤ P.flatten.length := by
  have h3 : P.flatten = (P.take (k + 1)).flatten ++ (P.drop (k + 1)).flatten := by rw [← List.flatten_append, List.take_append_drop]
  rw [← flat_snoc h, h3, List.length_append]
  omega
theorem drop_cons {P : List (List EntD)} {k : Nat} {L : List EntD} (h : P[k]? = some L) : P.drop k = L :: P.drop (k + 1) := by
  obtain ⟨h1, h2⟩ := List.getElem?_eq_some_iff.1 h
  rw [List.drop_eq_getElem_cons h1, h2]
theorem mrk_next {P : List (List EntD)} {k j : Nat} {L : List EntD} (h : P[j]? = some L) : mrkP k (P.take (j + 1)) = mrkP k (P.take j) ++ [markL (k + 5 * (P.take j).flatten.length) L.length] := by
  rw [List.take_add_one, h, Option.toList_some, mrkP_append]
  rfl
theorem mrk_at {P : List (List EntD)} {k j : Nat} {L : List EntD} (h : P[j]? = some L) : (mrkP k P)[j]? = some (markL (k + 5 * (P.take j).flatten.length) L.length) := by
  have h0 : P = P.take (j + 1) ++ P.drop (j + 1) := (List.take_append_drop _ _).symm
  have hj := (List.getElem?_eq_some_iff.1 h).1
  rw [h0, mrkP_append, mrk_next h, List.append_assoc, List.getElem?_append_right (by rw [mrkP_len, List.length_take]; omega), mrkP_len, List.length_take, show j - min j P.length = 0 by omega]
  rw [← h0]
  simp

set_option maxRecDepth 100000 in
set_option maxHeartbeats 1600000 in
theorem markZ_any (base : Nat) (v : Value) (gs : List Nat) (P : List (List EntD)) (k : Nat) (w : World) (hZ : PartsZ w base v gs P) (hk : 1 ≤ k) (hn : k + 5 * P.flatten.length ≤ 1000000000) (hP : P.length ≤ 1048576) (hbw : base ≤ w.heap.size) :
    Calls Tryd.prog 28 #[v, .int .i64 k] w fun e w' => e = .returned (.int .i64 ((k + 5 * P.flatten.length : Nat) : Int)) ∧ PartsZ w' base v gs (mrkP k P) ∧ Below base w w' := by
  obtain ⟨a, c, rfl⟩ := hZ.form
  obtain ⟨n, hnP⟩ : ∃ n, n = P.length := ⟨_, rfl⟩
  have HNP : Hid (n = P.length) := hnP
  have HNB : Hid (k + 5 * P.flatten.length ≤ 1000000000) := hn
  obtain ⟨T, hT⟩ : ∃ T, T = P.flatten.length := ⟨_, rfl⟩
  have HTT : Hid (T = P.flatten.length) := hT
  rw [← hnP] at hZ hP ⊢
  rw [← hT]
  have HZ : Hid (PartsZ w base (.slice a n c) gs P) := hZ
  have HBW : Hid (base ≤ w.heap.size) := hbw
  clear hZ hnP hT hn hbw
  go_enter Tryd.func28, Tryd.ntmps28
  go_wp2
  go_loopw [1, 5] (fun kv iv wr => ∃ (j K : Nat), j ≤ n ∧ iv = .int .i64 j ∧ kv = .int .i64 (K : Int) ∧ K = k + 5 * (P.take j).flatten.length ∧ PartsZ wr base (.slice a n c) gs (mrkP k (P.take j) ++ P.drop j) ∧ Below base w wr) (fun _ iv _ => n - (intOf iv).toNat)
  case atStart => exact ⟨0, k, Nat.zero_le _, rfl, rfl, by simp, by simpa [mrkP] using HZ.out, Below.refl _ _⟩
  case round =>
    obtain ⟨j, K, hj, rfl, rfl, hK, hZr, hb⟩ := hrel
    have HK : Hid (K = k + 5 * (P.take j).flatten.length) := hK
    have HZR : Hid (PartsZ wr base (.slice a n c) gs (mrkP k (P.take j) ++ P.drop j)) := hZr
    have HB : Hid (Below base w wr) := hb
    clear hK hb
    by_cases hlt : j < n
    · have hltI : (j : Int) < (n : Int) := by omega
      obtain ⟨L, hL⟩ : ∃ L, P[j]? = some L := ⟨_, List.getElem?_eq_getElem (by have := HNP.out; omega)⟩
      have HLJ : Hid (P[j]? = some L) := hL
      have HAL : Hid ((mrkP k (P.take j)).length = j) := by
        show _ = _
        rw [mrkP_len, List.length_take]
        have := HNP.out
        omega
      have hZ2 := hZr
      rw [drop_cons hL] at hZ2
      have HZ2 : Hid (PartsZ wr base (.slice a n c) gs (mrkP k (P.take j) ++ L :: P.drop (j + 1))) := hZ2
      have hat : (mrkP k (P.take j) ++ L :: P.drop (j + 1))[j]? = some L := by
        rw [List.getElem?_append_right (by rw [HAL.out]; exact Nat.le_refl _), HAL.out]
        simp
      obtain ⟨g, _, hg, _⟩ := hZ2.at (i := j) (List.getElem?_eq_some_iff.1 hat).1
      have HG : Hid (gs[j]? = some g) := hg
      have hO := hZ2.own j g L hg hat
      have HOG : Hid (base ≤ g) := hO.lt.1
      have hp := hZr.partsAt (by rw [List.length_append, HAL.out, List.length_drop]; have := HNP.out; omega)
      obtain ⟨b, off, rfl, hbl⟩ := hp.form (by omega)
      have hoff : off = 0 := by
        rcases hZr.row.2 with ⟨hv, _⟩ | ⟨g', cap', cur, hv, _⟩
        · cases hv
        · cases hv; rfl
      subst hoff
      have c0 : wr.cell? ⟨b, j, none⟩ = some (.slice (some ⟨g, 0, none⟩) L.length L.length) := by
        have hrow := hZr.row
        have hlen : (mrkP k (P.take j) ++ P.drop j).length = n := by rw [List.length_append, HAL.out, List.length_drop]; have := HNP.out; omega
        rw [hlen] at hrow
        have hc := hrow.cellAt j (by omega)
        rw [drop_cons hL, rowsV_at hg hat] at hc
        exact hc
      have hle : K + 5 * L.length ≤ 1000000000 := by
        have h1 := HK.out
        have h2 := HNB.out
        have h3 := flat_le hL
        omega
      have hk1 : 1 ≤ K := by have h1 := HK.out; omega
      have CM := markE_any base g L.length L.length K L wr hO hk1 hle
      clear hO hL hat hg hZ2 hZr hp
      obtain ⟨LL, hLL⟩ : ∃ LL, L.length = LL := ⟨_, rfl⟩
      have HLL : Hid (L.length = LL) := hLL
      rw [hLL] at c0 CM hle
      clear hLL
      go_wp2_with fail
      refine CM.mono ?_
      rintro e w2 ⟨rfl, hO2, hg2⟩
      obtain ⟨K2, hK2⟩ : ∃ K2 : Nat, K2 = K + 5 * LL := ⟨_, rfl⟩
      have HK2 : Hid (K2 = K + 5 * LL) := hK2
      rw [← hK2]
      have HO2 : Hid (OwnE w2 base g LL LL (markL K LL)) := hO2
      have HG2 : Hid (wr.grownBy w2 (some g)) := hg2
      clear hK2 hg2 CM hO2
      go_wp2
      go_roundw
      case rel =>
        refine ⟨j + 1, K2, by omega, by go_num, rfl, ?_, ?_, ?_⟩
        · have h1 := HK.out
          have h2 := HK2.out
          have h3 := HLL.out
          rw [flat_snoc HLJ.out]
          omega
        · have h3 := HLL.out
          have h4 := HZ2.out.set (L' := markL K LL) (by rw [HAL.out]; exact HG.out) HG2.out (by rw [markL_len, h3]) (by rw [h3]; exact HO2.out)
          rw [mrk_next HLJ.out, ← HK.out, List.append_assoc, h3]
          exact h4
        · exact HB.out.grown HG2.out (Nat.le_trans HBW.out HB.out.size) (fun x e => by have := HOG.out; have := Option.some.inj e; omega)
      case measure => simp [intOf]; omega
    · have hltI : ¬ (j : Int) < (n : Int) := by omega
      have HRES : Hid (PartsZ wr base (.slice a n c) gs (mrkP k P)) := by
        have h1 := HZR.out
        have h2 := HNP.out
        rw [List.take_of_length_le (by omega), List.drop_of_length_le (by omega), List.append_nil] at h1
        exact h1
      have HKE : Hid (K = k + 5 * T) := by
        have h1 := HK.out
        have h2 := HNP.out
        rw [List.take_of_length_le (by omega), ← HTT.out] at h1
        exact h1
      clear hZr
      go_wp2
      go_ret
      exact ⟨by rw [HKE.out]; simp, HRES.out, HB.out⟩

set_option maxRecDepth 100000 in
set_option maxHeartbeats 1600000 in
theorem heldZ_any (base : Nat) (v : Value) (gs : List Nat) (P : List (List EntD)) (k : Nat) (w : World) (hZ : PartsZ w base v gs (mrkP k P)) (hk : 1 ≤ k) (hn : k + 5 * P.flatten.length ≤ 1000000000) (hP : P.length ≤ 1048576) :
    Calls Tryd.prog 29 #[v, .int .i64 k] w fun e w' => e = .returned (.int .i64 ((k + 5 * P.flatten.length : Nat) : Int)) ∧ Below w.heap.size w w' := by
  obtain ⟨a, c, rfl⟩ := hZ.form
  obtain ⟨n, hnP⟩ : ∃ n, n = P.length := ⟨_, rfl⟩
  have HNP : Hid (n = P.length) := hnP
  have HNB : Hid (k + 5 * P.flatten.length ≤ 1000000000) := hn
  obtain ⟨T, hT⟩ : ∃ T, T = P.flatten.length := ⟨_, rfl⟩
  have HTT : Hid (T = P.flatten.length) := hT
  rw [mrkP_len, ← hnP] at hZ ⊢
  rw [← hT]
  rw [← hnP] at hP
  have HZ : Hid (PartsZ w base (.slice a n c) gs (mrkP k P)) := hZ
  clear hZ hnP hT hn
  go_enter Tryd.func29, Tryd.ntmps29
  go_wp2
  go_loopw [1, 5] (fun kv iv wr => ∃ (j K : Nat), j ≤ n ∧ iv = .int .i64 j ∧ kv = .int .i64 (K : Int) ∧ K = k + 5 * (P.take j).flatten.length ∧ Below w.heap.size w wr) (fun _ iv _ => n - (intOf iv).toNat)
  case atStart => exact ⟨0, k, Nat.zero_le _, rfl, rfl, by simp, Below.refl _ _⟩
  case round =>
    obtain ⟨j, K, hj, rfl, rfl, hK, hb⟩ := hrel
    have HK : Hid (K = k + 5 * (P.take j).flatten.length) := hK
    have HB : Hid (Below w.heap.size w wr) := hb
    have hZr := HZ.out.below hb
    clear hK hb
    by_cases hlt : j < n
    · have hltI : (j : Int) < (n : Int) := by omega
      obtain ⟨L, hL⟩ : ∃ L, P[j]? = some L := ⟨_, List.getElem?_eq_getElem (by have := HNP.out; omega)⟩
      have HLJ : Hid (P[j]? = some L) := hL
      have hat := mrk_at (k := k) hL
      rw [← HK.out] at hat
      obtain ⟨g, _, hg, _⟩ := hZr.at (i := j) (List.getElem?_eq_some_iff.1 hat).1
      have hO := hZr.own j g _ hg hat
      rw [markL_len] at hO
      have hp := hZr.partsAt (by rw [mrkP_len]; exact HNP.out)
      obtain ⟨b, off, rfl, hbl⟩ := hp.form (by omega)
      have hoff : off = 0 := by
        rcases hZr.row.2 with ⟨hv, _⟩ | ⟨g', cap', cur, hv, _⟩
        · cases hv
        · cases hv; rfl
      subst hoff
      have c0 : wr.cell? ⟨b, j, none⟩ = some (.slice (some ⟨g, 0, none⟩) L.length L.length) := by
        have hrow := hZr.row
        rw [mrkP_len, ← HNP.out] at hrow
        have hc := hrow.cellAt j (by omega)
        rw [rowsV_at hg hat, markL_len] at hc
        exact hc
      have hle : K + 5 * L.length ≤ 1000000000 := by
        have h1 := HK.out
        have h2 := HNB.out
        have h3 := flat_le hL
        omega
      have hk1 : 1 ≤ K := by have h1 := HK.out; omega
      have CM := heldE_any g L.length L.length K wr hO.entsAt hk1 hle
      clear hO hL hat hg hZr hp
      obtain ⟨LL, hLL⟩ : ∃ LL, L.length = LL := ⟨_, rfl⟩
      have HLL : Hid (L.length = LL) := hLL
      rw [hLL] at c0 CM hle
      clear hLL
      go_wp2_with fail
      refine CM.mono ?_
      rintro e w2 ⟨rfl, hb2⟩
      obtain ⟨K2, hK2⟩ : ∃ K2 : Nat, K2 = K + 5 * LL := ⟨_, rfl⟩
      have HK2 : Hid (K2 = K + 5 * LL) := hK2
      rw [← hK2]
      have HB2 : Hid (Below wr.heap.size wr w2) := hb2
      have hK0 : ¬ (K2 : Int) < 0 := by omega
      clear hK2 hb2 CM
      go_wp2
      go_roundw
      case rel =>
        refine ⟨j + 1, K2, by omega, by go_num, rfl, ?_, HB.out.trans (HB2.out.mono HB.out.size)⟩
        have h1 := HK.out
        have h2 := HK2.out
        have h3 := HLL.out
        rw [flat_snoc HLJ.out]
        omega
      case measure => simp [intOf]; omega
    · have hltI : ¬ (j : Int) < (n : Int) := by omega
      have HKE : Hid (K = k + 5 * T) := by
        have h1 := HK.out
        have h2 := HNP.out
        rw [List.take_of_length_le (by omega), ← HTT.out] at h1
        exact h1
      clear hZr
      go_wp2
      go_ret
      exact ⟨by rw [HKE.out]; simp, HB.out⟩

end Go.Proofs.YtfblpbihpmhgjaaDoor
