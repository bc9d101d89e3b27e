/-
  Pieces of TreeOk: the document's l5Aged, by a walk of its Go text.
  Pieces of TreeOk: the document's l5Parts, by a walk of its Go text.
-/
import Derived.Test.YtapjkbpfhmbfaaaGreatDoorSo28
import Derived.Test.YtapjkbpfhmbfaaaGreatDoorSo13
namespace Go.Proofs.YtapjkbpfhmbfaaaGreatDoor
open Go.RowKit
set_option maxRecDepth 100000
set_option maxHeartbeats 8000000
def above2 (P : List (List EntD)) (i k : Nat) : Bool := match P[i]? with | none => true | some A => match P[k]? with | none => true | some B => aboveB A B
theorem above2_at {P : List (List EntD)} {i k : Nat} {A B : List EntD} (h : P[i]? = some A) (h' : P[k]? = some B) : above2 P i k = aboveB A B := by
  unfold above2
  simp only [h, h']
def AgedTo (P : List (List EntD)) (i : Nat) : Prop := ∀ j k, j < i → j < k → k < P.length → above2 P j k = true
def AgedIn (P : List (List EntD)) (i k : Nat) : Prop := ∀ j, i < j → j < k → above2 P i j = true
def agedB (P : List (List EntD)) : Bool := (List.range P.length).all fun i => (List.range P.length).all fun k => !decide (i < k) || above2 P i k
theorem aged_no {P : List (List EntD)} {i k : Nat} (hi : i < k) (hk : k < P.length) (h : above2 P i k = false) : agedB P = false := by
  rw [Bool.eq_false_iff]
  intro h1
  unfold agedB at h1
  rw [List.all_eq_true] at h1
  have h2 := h1 i (List.mem_range.2 (by omega))
  rw [List.all_eq_true] at h2
  have h3 := h2 k (List.mem_range.2 hk)
  rw [h, decide_eq_true hi] at h3
  cases h3
theorem aged_all {P : List (List EntD)} (h : AgedTo P P.length) : agedB P = true := by
  unfold agedB
  rw [List.all_eq_true]
  intro i hi
  rw [List.all_eq_true]
  intro k hk
  by_cases e : i < k
  · rw [h i k (List.mem_range.1 hi) e (List.mem_range.1 hk)]; simp
  · rw [decide_eq_false e]; rfl
theorem aged_in {P : List (List EntD)} {i k : Nat} (h : AgedIn P i k) (hk : above2 P i k = true) : AgedIn P i (k + 1) := by
  intro j h1 h2
  by_cases e : j = k
  · subst e; exact hk
  · exact h j h1 (by omega)
theorem aged_to {P : List (List EntD)} {i : Nat} (h : AgedTo P i) (hi : AgedIn P i P.length) : AgedTo P (i + 1) := by
  intro j k h1 h2 h3
  by_cases e : j = i
  · subst e; exact hi k h2 h3
  · exact h j k (by omega) h2 h3
theorem specAged (sq : Int) (am av ak : Option Addr) (nm cm nv cv nk ck : Nat) (P : List (List EntD)) (w : World)
    (hp : ∀ w1, Below w.heap.size w w1 → Calls Tryz.prog 133 #[.agg #[.int .i64 sq, .slice am nm cm, .slice av nv cv, .slice ak nk ck]] w1 fun e w' => ∃ a n c, e = .returned (.slice a n c) ∧ PartsAt w' a n c P ∧ Below w1.heap.size w1 w') :
    Calls Tryz.prog 78 #[.agg #[.int .i64 sq, .slice am nm cm, .slice av nv cv, .slice ak nk ck]] w fun e w' => e = .returned (.bool (agedB P)) ∧ Below w.heap.size w w' := by
  go_enter Tryz.func78, Tryz.ntmps78
  go_wp2_with fail
  refine (hp _ ((Below.refl _ _).alloc (Nat.le_refl _) _)).mono ?_
  rintro e w2 ⟨a, n, c, rfl, hP, hb2⟩
  have K1 : ∀ o, Below w.heap.size w (w.alloc o) := fun o => (Below.refl _ _).alloc (Nat.le_refl _) o
  have K2 : Hid (Below w.heap.size w w2) := (K1 _).trans (hb2.mono (K1 _).size)
  clear hb2 hp K1
  have HLN : Hid (P.length = n) := hP.length
  have hr := hP.room
  have hbg := hP.big
  unfold maxLen at hbg
  have H : Hid (PartsAt w2 a n c P) := hP
  clear hP
  go_wp2
  go_loopw [4] (fun iv wr => ∃ i : Nat, i ≤ n ∧ iv = .int .i64 i ∧ Below w2.heap.size w2 wr ∧ AgedTo P i) (fun iv _ => n - (intOf iv).toNat)
  case atStart => exact ⟨0, Nat.zero_le _, rfl, Below.refl _ _, fun j k hj => absurd hj (Nat.not_lt_zero _)⟩
  case round =>
    obtain ⟨i, hi, rfl, hb, hw⟩ := hrel
    have HW : Hid (AgedTo P i) := hw
    have HB : Hid (Below w2.heap.size w2 wr) := hb
    clear hw hb
    by_cases hin : i < n
    · have hinI : (i : Int) < (n : Int) := by omega
      obtain ⟨b, off, rfl, hbb⟩ := H.out.form (by omega)
      go_wp2
      go_loopw [5] (fun kv wq => ∃ k : Nat, i < k ∧ k ≤ n ∧ kv = .int .i64 k ∧ Below w2.heap.size w2 wq ∧ AgedIn P i k) (fun kv _ => n - (intOf kv).toNat)
      case atStart => exact ⟨i + 1, by omega, by omega, by go_num, HB.out, fun j h1 h2 => absurd h2 (by omega)⟩
      case round =>
        obtain ⟨k, hik, hk, rfl, hbk, hwk⟩ := hrel
        have HWK : Hid (AgedIn P i k) := hwk
        have HBK : Hid (Below w2.heap.size w2 wr) := hbk
        clear hwk
        by_cases hkn : k < n
        · have hknI : (k : Int) < (n : Int) := by omega
          obtain ⟨A, s1, n1, c1, hA, g1, hE1⟩ := H.out.list hbk i hin
          obtain ⟨B, s2, n2, c2, hB, g2, hE2⟩ := H.out.list hbk k hkn
          have HAT : Hid (above2 P i k = aboveB A B) := above2_at hA hB
          have HKL : Hid (k < P.length) := by show k < P.length; rw [HLN.out]; exact hkn
          have zb := Nat.lt_of_lt_of_le hbb hbk.size
          have CA : Hid (∀ w', Below wr.heap.size wr w' → Calls Tryz.prog 134 #[.slice s1 n1 c1, .slice s2 n2 c2] w' fun e w'' => e = .returned (.bool (aboveB A B)) ∧ Below w'.heap.size w' w'') := fun w' kk => specAbove s1 s2 n1 c1 n2 c2 A B w' (hE1.keep kk) (hE2.keep kk)
          have HMK : Hid (∀ w', Below wr.heap.size wr w' → (w'.cell? ⟨b, off + i, none⟩ = some (.slice s1 n1 c1) ∧ w'.cell? ⟨b, off + k, none⟩ = some (.slice s2 n2 c2) ∧ b < w'.heap.size)) := fun w' kk => ⟨cell_later kk g1, cell_later kk g2, Nat.lt_of_lt_of_le zb kk.size⟩
          have k0 : Below wr.heap.size wr wr.drew := (Below.refl _ wr).drew
          clear hA hB g1 g2 hE1 hE2 zb hbk
          obtain ⟨O, hO⟩ : ∃ O, O = aboveB A B := ⟨_, rfl⟩
          rw [← hO] at CA HAT
          clear hO
          cases O with
          | true =>
            go_wp2_with fail
            refine wp_region_held_drew (S := (fun w' => w'.cell? ⟨b, off + i, none⟩ = some (.slice s1 n1 c1) ∧ w'.cell? ⟨b, off + k, none⟩ = some (.slice s2 n2 c2) ∧ b < w'.heap.size)) (by kernel_rfl) (HMK.out _ k0) (fun hHeld => ?_)
            refine tkL 0 hHeld ?_; try go_frame
            refine tkL 1 hHeld ?_; try go_frame
            refine tkL 2 hHeld ?_; try go_frame
            refine tkL 3 hHeld ?_; try go_frame
            refine tkL 4 hHeld ?_; try go_frame
            refine tkL 5 hHeld ?_; try go_frame
            refine tkL 6 hHeld ?_; try go_frame
            refine tkL 7 hHeld ?_; try go_frame
            refine wpAnyH_ready (rs := [8]) (by kernel_rfl) (by simp) ?_
            refine consL rfl (fun K hK => ?_) AllReadyH.nil
            go_simp
            refine (CA.out _ k0).mono ?_
            rintro e wk1 ⟨rfl, bk1⟩
            have k1 : Below wr.heap.size wr wk1 := k0.trans (bk1.mono k0.size)
            go_wp2_with fail
            refine hK.out _ _ (HMK.out _ k1) (fun hHeld => ?_)
            clear hK K
            try go_frame
            refine tkL 9 hHeld ?_; try go_frame
            refine wpAnyH_done (by kernel_rfl) ?_ _
            have KY : Hid (Below w2.heap.size w2 wk1) := HBK.out.trans (k1.mono HBK.out.size)
            clear k0 k1 bk1 HMK CA hHeld
            go_wp2
            go_roundw
            case rel => exact ⟨k + 1, by omega, by omega, by go_num, KY.out, aged_in HWK.out HAT.out⟩
            case measure => simp [intOf]; omega
          | false =>
            go_wp2_with fail
            refine wp_region_held_drew (S := (fun w' => w'.cell? ⟨b, off + i, none⟩ = some (.slice s1 n1 c1) ∧ w'.cell? ⟨b, off + k, none⟩ = some (.slice s2 n2 c2) ∧ b < w'.heap.size)) (by kernel_rfl) (HMK.out _ k0) (fun hHeld => ?_)
            refine tkL 0 hHeld ?_; try go_frame
            refine tkL 1 hHeld ?_; try go_frame
            refine tkL 2 hHeld ?_; try go_frame
            refine tkL 3 hHeld ?_; try go_frame
            refine tkL 4 hHeld ?_; try go_frame
            refine tkL 5 hHeld ?_; try go_frame
            refine tkL 6 hHeld ?_; try go_frame
            refine tkL 7 hHeld ?_; try go_frame
            refine wpAnyH_ready (rs := [8]) (by kernel_rfl) (by simp) ?_
            refine consL rfl (fun K hK => ?_) AllReadyH.nil
            go_simp
            refine (CA.out _ k0).mono ?_
            rintro e wk1 ⟨rfl, bk1⟩
            have k1 : Below wr.heap.size wr wk1 := k0.trans (bk1.mono k0.size)
            go_wp2_with fail
            refine hK.out _ _ (HMK.out _ k1) (fun hHeld => ?_)
            clear hK K
            try go_frame
            refine tkL 9 hHeld ?_; try go_frame
            refine wpAnyH_done (by kernel_rfl) ?_ _
            have KY : Hid (Below w2.heap.size w2 wk1) := HBK.out.trans (k1.mono HBK.out.size)
            clear k0 k1 bk1 HMK CA hHeld
            go_wp2
            go_ret
            exact ⟨ret_bool (aged_no hik HKL.out HAT.out).symm, K2.out.trans (KY.out.mono K2.out.size)⟩
        · have hknI : ¬ (k : Int) < (n : Int) := by omega
          have HN : Hid (AgedTo P (i + 1)) := by
            have h1 := HWK.out
            have h2 : k = P.length := by rw [HLN.out]; omega
            rw [h2] at h1
            exact aged_to HW.out h1
          go_wp2
          go_roundw
          case rel => exact ⟨i + 1, by omega, by go_num, HBK.out, HN.out⟩
          case measure => simp [intOf]; omega
    · have hinI : ¬ (i : Int) < (n : Int) := by omega
      have HC : Hid (agedB P = true) := by
        have hw := HW.out
        have hii : i = P.length := by rw [HLN.out]; omega
        rw [hii] at hw
        exact aged_all hw
      go_wp2
      go_ret
      exact ⟨ret_bool HC.out.symm, K2.out.trans (HB.out.mono K2.out.size)⟩
end Go.Proofs.YtapjkbpfhmbfaaaGreatDoor

namespace Go.Proofs.YtapjkbpfhmbfaaaGreatDoor
open Go.RowKit
set_option maxRecDepth 100000
set_option maxHeartbeats 40000000
theorem PartsOwn.move {w w' : World} {base g n c : Nat} {P : List (List EntD)} {vs : List Value} {y y' : Option Nat} (h : PartsOwn w base g n c P vs y) (hg : w.grownBy w' y) (hy : y' = y ∨ y' = some w.heap.size) : PartsOwn w' base g n c P vs y' where
  owns := h.owns.kept hg (.inr h.ne)
  len := h.len
  ne := (h.turn (y' := y') (by rcases hy with e | e; exact .inl e; exact .inr (.inr e))).ne
  lists := fun i A hA => by
    obtain ⟨s, m, d, hv, hE, hx⟩ := h.lists i A hA
    obtain ⟨s', m', d', hv', _, hx'⟩ := (h.turn (y' := y') (by rcases hy with e | e; exact .inl e; exact .inr (.inr e))).lists i A hA
    rw [hv] at hv'
    cases hv'
    exact ⟨s, m, d, hv, hE.grownB hg (fun x e hp => (hx x e hp).2), hx'⟩
theorem ents_news_at {w : World} {b o n c : Nat} {L : List EntD} (h : EntsAt w (some ⟨b, o, none⟩) n c L) : ∀ j u, (flatE L)[j]? = some u → w.cell? ((⟨b, o, none⟩ : Addr).add j) = some u := by
  intro j u hj
  have hlt : j < (flatE L).length := (List.getElem?_eq_some_iff.1 hj).1
  rw [flatE_len] at hlt
  have hi : j / 5 < L.length := by omega
  obtain ⟨c0, c1, c2, c3, c4⟩ := h.cells _ rfl (j / 5) hi
  obtain ⟨r0, r1, r2, r3, r4⟩ := flatE_has L (j / 5) L[j / 5] (List.getElem?_eq_getElem hi)
  rw [Go.WideShapes.add_plain]
  simp only at c0 c1 c2 c3 c4
  have : j = j / 5 * 5 ∨ j = j / 5 * 5 + 1 ∨ j = j / 5 * 5 + 2 ∨ j = j / 5 * 5 + 3 ∨ j = j / 5 * 5 + 4 := by omega
  rcases this with e | e | e | e | e
  · rw [← e] at r0 c0; rw [r0] at hj; cases hj; exact c0
  · rw [Nat.add_assoc, ← e] at c1; rw [← e] at r1; rw [r1] at hj; cases hj; exact c1
  · rw [Nat.add_assoc, ← e] at c2; rw [← e] at r2; rw [r2] at hj; cases hj; exact c2
  · rw [Nat.add_assoc, ← e] at c3; rw [← e] at r3; rw [r3] at hj; cases hj; exact c3
  · rw [Nat.add_assoc, ← e] at c4; rw [← e] at r4; rw [r4] at hj; cases hj; exact c4
def flatR (B : List RunD) : List EntD := B.flatMap (·.1)
def upP (M : List EntD) (B : List RunD) (j : Nat) : List (List EntD) := M :: (B.drop j).reverse.map (·.1)
def lowP (M : List EntD) (V : List (List RunD)) (k : Nat) : List (List EntD) := upP M (V.headD []) 0 ++ ((V.take k).drop 1).map flatR
def partsL (M : List EntD) (V : List (List RunD)) : List (List EntD) := M :: (V.headD []).reverse.map (·.1) ++ (V.drop 1).map flatR
theorem upP_all (M : List EntD) (B : List RunD) : upP M B B.length = [M] := by simp [upP]
theorem upP_step {M : List EntD} {B : List RunD} {j : Nat} {r : RunD} (h : B[j]? = some r) : upP M B j = upP M B (j + 1) ++ [r.1] := by
  obtain ⟨hj, e⟩ := List.getElem?_eq_some_iff.1 h
  unfold upP
  rw [List.drop_eq_getElem_cons hj, e]
  simp
theorem lowP_one (M : List EntD) (V : List (List RunD)) : lowP M V 1 = upP M (V.headD []) 0 := by
  unfold lowP
  cases V <;> simp
theorem lowP_step {M : List EntD} {V : List (List RunD)} {k : Nat} {B : List RunD} (h : V[k]? = some B) (hk : 1 ≤ k) : lowP M V (k + 1) = lowP M V k ++ [flatR B] := by
  obtain ⟨hl, _⟩ := List.getElem?_eq_some_iff.1 h
  unfold lowP
  rw [List.take_add_one, h, List.drop_append_of_le_length (by rw [List.length_take]; omega)]
  simp
theorem lowP_all (M : List EntD) (V : List (List RunD)) : lowP M V V.length = partsL M V := by
  unfold lowP partsL upP
  simp
theorem flatR_step {B : List RunD} {i : Nat} {r : RunD} (h : B[i]? = some r) : flatR (B.take (i + 1)) = flatR (B.take i) ++ r.1 := by
  unfold flatR
  rw [List.take_add_one, h]
  simp
theorem flatR_len {B : List RunD} {m : Nat} (h : ∀ r ∈ B, r.1.length ≤ m) : (flatR B).length ≤ B.length * m := by
  induction B with
  | nil => simp [flatR]
  | cons a t ih =>
    have h1 := ih (fun r hr => h r (List.mem_cons_of_mem _ hr))
    have h2 := h a List.mem_cons_self
    have h3 : flatR (a :: t) = a.1 ++ flatR t := by simp [flatR]
    rw [h3, List.length_append, List.length_cons, Nat.succ_mul]
    omega
theorem specParts (lo : Nat) (sq : Int) (am av ak : Option Addr) (nm cm nv cv nk ck : Nat) (M : List EntD) (V : List (List RunD)) (S : List Int) (w : World) (hT : TreeIn lo w am nm cm av nv cv ak nk ck M V S)
    (hv1 : 1 ≤ nv) (hv2 : nv ≤ 100) (hV : ∀ B ∈ V, B.length ≤ 100 ∧ ∀ r ∈ B, 1 ≤ r.1.length ∧ r.1.length ≤ 10000) :
    Calls Tryz.prog 133 #[.agg #[.int .i64 sq, .slice am nm cm, .slice av nv cv, .slice ak nk ck]] w fun e w' => ∃ a n c, e = .returned (.slice a n c) ∧ PartsAt w' a n c (partsL M V) ∧ Below w.heap.size w w' := by
  have HV : Hid (∀ B ∈ V, B.length ≤ 100 ∧ ∀ r ∈ B, 1 ≤ r.1.length ∧ r.1.length ≤ 10000) := hV
  have HM : Hid (EntsAt w am nm cm M) := hT.mem.1
  obtain ⟨b, off, rfl, hbb⟩ := hT.levels.form hv1
  have HL : Hid (LevelsIn lo w (some ⟨b, off, none⟩) nv cv V) := hT.levels
  have HLN : Hid (V.length = nv) := hT.levels.length
  obtain ⟨B0, a0, n0, c0, hB0, gl0, hR0⟩ := hT.levels.level (Below.refl _ w) 0 (by omega)
  have HB0 : Hid (V.headD [] = B0) := by
    show V.headD [] = B0
    cases V with
    | nil => cases hB0
    | cons x t => simp at hB0; simp [hB0]
  have HS0 : Hid (B0.length ≤ 100 ∧ ∀ r ∈ B0, 1 ≤ r.1.length ∧ r.1.length ≤ 10000) := hV B0 (List.mem_of_getElem? hB0)
  have HR0 : Hid (RunsIn lo w a0 n0 c0 B0) := hR0
  have HN0 : Hid (B0.length = n0) := hR0.length
  have hn0 : n0 ≤ 100 := by have := HS0.out.1; have := HN0.out; omega
  clear hV hT hB0 hR0
  obtain ⟨X, hX⟩ : ∃ X, X = w.heap.size := ⟨_, rfl⟩
  obtain ⟨W, hW⟩ : ∃ W, W = w.alloc (.cells #[.int .i64 sq, .slice am nm cm, .slice (some ⟨b, off, none⟩) nv cv, .slice ak nk ck] 36) := ⟨_, rfl⟩
  have kW : Below w.heap.size w W := by rw [hW]; exact (Below.refl _ _).alloc (Nat.le_refl _) _
  have hWs : W.heap.size = w.heap.size + 1 := by rw [hW]; simp
  have x2 : W.cell? ⟨X, 2, none⟩ = some (.slice (some ⟨b, off, none⟩) nv cv) := by rw [hW, hX]; simp
  have HX2 : Hid (∀ wr, Below W.heap.size W wr → wr.cell? ⟨X, 2, none⟩ = some (.slice (some ⟨b, off, none⟩) nv cv)) := fun wr k => cell_later k x2
  have HKW : Hid (∀ wr, Below W.heap.size W wr → Below w.heap.size w wr) := fun wr k => kW.trans (k.mono kW.size)
  have HWS : Hid (W.heap.size = w.heap.size + 1) := hWs
  have HGL0 : Hid (w.cell? ⟨b, off, none⟩ = some (.slice a0 n0 c0)) := by show w.cell? _ = _; simpa using gl0
  have P0 : PartsOwn (W.alloc (.cells #[.slice am nm cm] 33)) W.heap.size W.heap.size 1 1 [M] [.slice am nm cm] none := by
    have hA : Below W.heap.size W (W.alloc (.cells #[.slice am nm cm] 33)) := (Below.refl _ _).alloc (Nat.le_refl _) _
    refine ⟨?_, rfl, (fun e => by cases e), ?_⟩
    · have := World.ownsRow_lit (base := W.heap.size) (e := 33) (size := 1) W #[.slice am nm cm] 1 (Nat.le_refl _) (by unfold maxLen; omega) (by simp)
      simpa using this
    · intro i A hA'
      match i, hA' with
      | 0, hA' =>
        simp at hA'
        subst hA'
        refine ⟨am, nm, cm, rfl, HM.out.keep (kW.trans (hA.mono kW.size)), fun x e hp => ⟨?_, fun e => by cases e⟩⟩
        have := (HM.out.lies x e hp).1
        omega
      | i + 1, hA' => simp at hA'
  have hWX : W.heap.size = X + 1 := by rw [hWs, hX]
  obtain ⟨wt, hwt⟩ : ∃ wt, wt = W.alloc (.cells #[.slice am nm cm] 33) := ⟨_, rfl⟩
  have A0 : Below W.heap.size W wt := by rw [hwt]; exact (Below.refl _ _).alloc (Nat.le_refl _) _
  rw [← hwt, hWX] at P0
  rw [hWX] at A0
  have HP0 : Hid (PartsOwn wt (X + 1) (X + 1) 1 1 [M] [.slice am nm cm] none) := P0
  have HA0 : Hid (Below (X + 1) W wt) := A0
  have HKB : Hid (∀ wr, Below (X + 1) W wr → Below w.heap.size w wr) := fun wr k => HKW.out wr (by rw [hWX]; exact k)
  have HXB : Hid (∀ wr, Below (X + 1) W wr → wr.cell? ⟨X, 2, none⟩ = some (.slice (some ⟨b, off, none⟩) nv cv)) := fun wr k => HX2.out wr (by rw [hWX]; exact k)
  have HSB : Hid (∀ wr, Below (X + 1) W wr → X + 1 ≤ wr.heap.size) := fun wr k => by have := k.size; omega
  have HXw : Hid (X = w.heap.size) := hX
  obtain ⟨i0, hi, hz0, hz1, hz2⟩ := info_parts Tryz.infoEntS
  obtain ⟨i1, hi1, hy0, hy1, hy2⟩ := info_parts Tryz.infoEnt
  clear P0 x2 gl0 A0 HX2 HKW HWS hWs kW hWX
  go_enter Tryz.func133, Tryz.ntmps133
  go_upto_region 2 with fail
  rw [← hW, ← hX, ← hwt]
  clear hW hwt hX
  have hnvI : (0 : Int) < (nv : Int) := by omega
  have t2 := HXB.out wt HA0.out
  have tl := cell_later (HKB.out wt HA0.out) HGL0.out
  have zb := Nat.lt_of_lt_of_le hbb (HKB.out wt HA0.out).size
  have zX := World.block_lt_of_cell? _ _ t2
  have wj : IntKind.i64.wrap ((n0 : Int) - 1) = (n0 : Int) - 1 := by rw [IntWalk.i64_left]; unfold wrap64; omega
  go_wp2
  go_loopw [3, 4] (fun o iv wr => ∃ (j n g c : Nat) (vs : List Value) (z : Int), j ≤ n0 ∧ z = (j : Int) - 1 ∧ iv = .int .i64 z ∧ o = .slice (some ⟨g, 0, none⟩) n c ∧ PartsOwn wr (X + 1) g n c (upP M B0 j) vs none ∧ Below (X + 1) W wr) (fun _ iv _ => (intOf iv + 1).toNat)
  case atStart => exact ⟨n0, 1, X + 1, 1, _, _, Nat.le_refl _, rfl, rfl, rfl, by rw [← HN0.out, upP_all]; exact HP0.out, HA0.out⟩
  case round =>
    obtain ⟨j, n, g, c, vs, z, hj, hz, rfl, rfl, hP, hb⟩ := hrel
    have HP : Hid (PartsOwn wr (X + 1) g n c (upP M B0 j) vs none) := hP
    have HB : Hid (Below (X + 1) W wr) := hb
    have hn : n ≤ 101 := by have := hP.len; have := HN0.out; simp [upP] at *; omega
    clear hP hb t2 tl zb zX
    have t2 := HXB.out wr HB.out
    have tl := cell_later (HKB.out wr HB.out) HGL0.out
    have zb := Nat.lt_of_lt_of_le hbb (HKB.out wr HB.out).size
    have zX := World.block_lt_of_cell? _ _ t2
    by_cases hj0 : j = 0
    · subst hj0
      have hz' : z = -1 := by omega
      subst hz'
      have HP1 : Hid (PartsOwn wr (X + 1) g n c (lowP M V 1) vs none) := by show PartsOwn wr (X + 1) g n c (lowP M V 1) vs none; rw [lowP_one, HB0.out]; exact HP.out
      clear hz wj tl t2 zb zX
      go_wp2
      go_loopw [3, 5] (fun o kv wr => ∃ (k n g c : Nat) (vs : List Value), 1 ≤ k ∧ k ≤ nv ∧ kv = .int .i64 k ∧ o = .slice (some ⟨g, 0, none⟩) n c ∧ PartsOwn wr (X + 1) g n c (lowP M V k) vs none ∧ Below (X + 1) W wr) (fun _ kv _ => nv - (intOf kv).toNat)
      case atStart => exact ⟨1, n, g, c, vs, Nat.le_refl _, by omega, rfl, rfl, HP1.out, HB.out⟩
      case round =>
        clear HP HP1 HB hn
        obtain ⟨k, n, g, c, vs, hk1, hk, rfl, rfl, hP, hb⟩ := hrel
        have HP : Hid (PartsOwn wr (X + 1) g n c (lowP M V k) vs none) := hP
        have HB : Hid (Below (X + 1) W wr) := hb
        have hn : n ≤ 201 := by
          have h1 := hP.len
          have h2 := HN0.out
          have h3 := HLN.out
          have h4 := HB0.out
          simp only [lowP, upP, h4, List.length_append, List.length_cons, List.length_map, List.length_reverse, List.length_drop, List.length_take] at h1
          omega
        clear hP hb
        have t2 := HXB.out wr HB.out
        have zX := World.block_lt_of_cell? _ _ t2
        have zb := Nat.lt_of_lt_of_le hbb (HKB.out wr HB.out).size
        by_cases hkn : k < nv
        · have hknI : (k : Int) < (nv : Int) := by omega
          obtain ⟨B, sB, nB, cB, hB, gB, hRB⟩ := HL.out.level (Below.refl _ w) k hkn
          have HST : Hid (lowP M V (k + 1) = lowP M V k ++ [flatR B]) := lowP_step hB hk1
          have HSB2 : Hid (B.length ≤ 100 ∧ ∀ r ∈ B, 1 ≤ r.1.length ∧ r.1.length ≤ 10000) := HV.out B (List.mem_of_getElem? hB)
          have HRB : Hid (RunsIn lo w sB nB cB B) := hRB
          have HNB : Hid (B.length = nB) := hRB.length
          have HGB : Hid (w.cell? ⟨b, off + k, none⟩ = some (.slice sB nB cB)) := gB
          have hnB : nB ≤ 100 := by have := HSB2.out.1; have := HNB.out; omega
          clear hB gB hRB
          go_upto_region 10 with fail
          obtain ⟨ga, hga⟩ : ∃ ga, ga = wr.heap.size := ⟨_, rfl⟩
          obtain ⟨wa, hwa⟩ : ∃ wa, wa = wr.alloc (.cells #[] 87) := ⟨_, rfl⟩
          have hka : Below wr.heap.size wr wa := by rw [hwa]; exact (Below.refl _ _).alloc (Nat.le_refl _) _
          have HOA : Hid (OwnE wa (X + 1) ga 0 0 (flatR (B.take 0))) := by
            have := World.ownsRow_lit (base := X + 1) (e := 87) (size := 5) wr #[] 0 (HSB.out wr HB.out) (by simp) (by simp)
            rw [hwa, hga]
            exact ⟨by simpa [flatR, flatE] using this, rfl, by simp [flatR]⟩
          have HPA : Hid (PartsOwn wa (X + 1) g n c (lowP M V k) vs (some ga)) := by
            rw [hga]
            exact (HP.out.turn (.inr (.inr rfl))).below hka
          have HBA : Hid (Below (X + 1) W wa) := by rw [hwa]; exact HB.out.alloc (HSB.out wr HB.out) _
          rw [← hwa, ← hga]
          clear hwa hga hka t2 zX zb
          go_wp2
          go_loopw [6, 7] (fun o iv wq => ∃ (i na ga ca : Nat), i ≤ nB ∧ iv = .int .i64 i ∧ o = .slice (some ⟨ga, 0, none⟩) na ca ∧ OwnE wq (X + 1) ga na ca (flatR (B.take i)) ∧ PartsOwn wq (X + 1) g n c (lowP M V k) vs (some ga) ∧ Below (X + 1) W wq) (fun _ iv _ => nB - (intOf iv).toNat)
          case atStart => exact ⟨0, 0, ga, 0, Nat.zero_le _, rfl, rfl, HOA.out, HPA.out, HBA.out⟩
          case round =>
            clear HOA HPA HBA HP HB
            obtain ⟨i, na, ga, ca, hin, rfl, rfl, hO, hP, hb⟩ := hrel
            have HO : Hid (OwnE wr (X + 1) ga na ca (flatR (B.take i))) := hO
            have HP : Hid (PartsOwn wr (X + 1) g n c (lowP M V k) vs (some ga)) := hP
            have HB : Hid (Below (X + 1) W wr) := hb
            have hna : na ≤ 1000000 := by
              have h1 := hO.len
              have h2 := flatR_len (B := B.take i) (m := 10000) (fun r hr => (HSB2.out.2 r (List.mem_of_mem_take hr)).2)
              have h3 : (B.take i).length ≤ 100 := by rw [List.length_take]; omega
              have h4 : (B.take i).length * 10000 ≤ 100 * 10000 := Nat.mul_le_mul_right _ h3
              omega
            clear hO hP hb
            have t2 := HXB.out wr HB.out
            have zX := World.block_lt_of_cell? _ _ t2
            have zb := Nat.lt_of_lt_of_le hbb (HKB.out wr HB.out).size
            have gB := cell_later (HKB.out wr HB.out) HGB.out
            by_cases hiB : i < nB
            · have hiI : (i : Int) < (nB : Int) := by omega
              obtain ⟨bB, oB, rfl, hbB⟩ := HRB.out.form (by omega)
              obtain ⟨L, m, s, ns, cs, hg, _, g0, _, hE⟩ := HRB.out.run (Below.refl _ w) i hiB
              have hmem := HSB2.out.2 _ (List.mem_of_getElem? hg)
              have hLn := hE.1.length
              simp only at hmem
              obtain ⟨bs, os, rfl, hbs⟩ := hE.1.form (by omega)
              have hns1 : 1 ≤ ns := by omega
              have hns2 : ns ≤ 10000 := by omega
              have HFS : Hid (flatR (B.take (i + 1)) = flatR (B.take i) ++ L) := flatR_step hg
              have HE : Hid (EntsAt w (some ⟨bs, os, none⟩) ns cs L) := hE.1
              have HLn : Hid ((flatE L).length = ns * 5) := by show _ = _; rw [flatE_len, hLn]
              have HLn2 : Hid (L.length = ns) := hLn
              have HNW : Hid (∀ j u, (flatE L)[j]? = some u → wr.cell? ((⟨bs, os, none⟩ : Addr).add j) = some u) := ents_news_at (hE.1.keep (HKB.out wr HB.out))
              have HON : Hid (∀ u ∈ flatE L, u.oneCell' = true) := flatE_one L
              have g0 := cell_later (HKB.out wr HB.out) g0
              have zr := Nat.lt_of_lt_of_le hbB (HKB.out wr HB.out).size
              clear hg hE hmem hLn
              go_wp2_with (at_builtin; refine wpList_append_own_at _ rfl _ _ 33 rfl (X + 1) 87 i1 _ 5 56 Tryz.underlying33 hi1 hy0 hy1 hy2 rfl (by decide) _ _ _ rfl HO.out.owns ⟨bs, os, none⟩ ns cs (flatE L) rfl HLn.out HNW.out HON.out ?c3 ?c4 ?c5 ?_)
              case c3 => unfold maxLen; omega
              case c4 => omega
              case c5 => exact HSB.out wr HB.out
              intro v' w2 hown' hgrow hnil hat
              obtain ⟨g2, cap2, rfl⟩ : ∃ g cap, v' = .slice (some ⟨g, 0, none⟩) (na + ns) cap := by
                rcases hown'.2 with ⟨hv, h0⟩ | ⟨g, cap, cur, hv, _⟩
                · omega
                · exact ⟨g, cap, hv⟩
              have HO2 : Hid (OwnE w2 (X + 1) g2 (na + ns) cap2 (flatR (B.take (i + 1)))) := by
                refine ⟨?_, ?_, ?_⟩
                · rw [HFS.out, flatE_append]; exact hown'
                · rw [HFS.out, List.length_append, HO.out.len, HLn2.out]
                · intro l hl
                  rw [HFS.out] at hl
                  rcases List.mem_append.1 hl with h1 | h1
                  · exact HO.out.ents l h1
                  · exact HE.out.ents l h1
              have HP2 : Hid (PartsOwn w2 (X + 1) g n c (lowP M V k) vs (some g2)) := HP.out.move hgrow (by rcases hat with h | h; exact .inl (by have h1 : g2 = ga := Option.some.inj h; rw [h1]); exact .inr (by have h1 : g2 = wr.heap.size := Option.some.inj h; rw [h1]))
              have HB2 : Hid (Below (X + 1) W w2) := HB.out.grown hgrow (HSB.out wr HB.out) (fun q hq => (HO.out.owns.lt q hq).1)
              clear hown' hgrow hnil hat
              go_wp2
              go_roundw
              case rel => exact ⟨i + 1, na + ns, g2, cap2, by omega, by go_num, rfl, HO2.out, HP2.out, HB2.out⟩
              case measure => simp [intOf] <;> omega
            · have hiI : ¬ (i : Int) < (nB : Int) := by omega
              have HFA : Hid (flatR (B.take i) = flatR B) := by show flatR (B.take i) = _; rw [List.take_of_length_le (by rw [HNB.out]; omega)]
              go_wp2_with (at_builtin; refine wpList_append_own_at _ rfl _ _ 103 rfl (X + 1) 33 i0 _ 1 24 Tryz.underlying103 hi hz0 hz1 hz2 rfl (by decide) _ _ _ rfl (HP.out.owns.alloc _) ⟨wr.heap.size, 0, none⟩ 1 1 [.slice (some ⟨ga, 0, none⟩) na ca] rfl rfl ?r1 ?r2 ?r3 ?r4 ?r5 ?_)
              case r2 => first | rfl | simp
              case r3 => unfold maxLen; omega
              case r4 => omega
              case r5 => have := HSB.out wr HB.out; simp; omega
              intro v' w2 hown' hgrow hnil hat
              obtain ⟨g2, cap2, rfl⟩ : ∃ g cap, v' = .slice (some ⟨g, 0, none⟩) (n + 1) cap := by
                rcases hown'.2 with ⟨hv, h0⟩ | ⟨g, cap, cur, hv, _⟩
                · omega
                · exact ⟨g, cap, hv⟩
              have HP2 : Hid (PartsOwn w2 (X + 1) g2 (n + 1) cap2 (lowP M V (k + 1)) (vs ++ [.slice (some ⟨ga, 0, none⟩) na ca]) none) := by
                have hka : ∀ o, Below wr.heap.size wr (wr.alloc o) := fun o => (Below.refl _ _).alloc (Nat.le_refl _) o
                have h1 := (HP.out.below (hka _)).push (A := flatR B) hown' hgrow (by rcases hat with h | h; exact .inl (Option.some.inj h); exact .inr (by have h1 : g2 = wr.heap.size + 1 := Option.some.inj h; simpa using h1)) (by rw [← HFA.out]; exact HO.out.entsAt.keep (hka _)) (fun x e hp => by
                  have h3 := HP.out.ne
                  cases e
                  exact fun e => h3 (by rw [← e]))
                show PartsOwn _ _ _ _ _ _ _ _
                rw [HST.out]
                exact h1
              have HB2 : Hid (Below (X + 1) W w2) := (HB.out.alloc (HSB.out wr HB.out) _).grown hgrow (by have := HSB.out wr HB.out; simp; omega) (fun q hq => (HP.out.owns.lt q hq).1)
              clear hown' hgrow hnil hat
              go_wp2
              go_roundw
              case rel => exact ⟨k + 1, n + 1, g2, cap2, _, by omega, by omega, by go_num, rfl, HP2.out, HB2.out⟩
              case measure => simp [intOf] <;> omega
        · have hknI : ¬ (k : Int) < (nv : Int) := by omega
          have HC : Hid (lowP M V k = partsL M V) := by
            show lowP M V k = _
            rw [← lowP_all, HLN.out, show k = nv by omega]
          go_wp2
          go_ret
          exact ⟨some ⟨g, 0, none⟩, n, c, rfl, by rw [← HC.out]; exact HP.out.partsAt, HKB.out wr HB.out⟩
    · obtain ⟨jj, rfl⟩ : ∃ jj, j = jj + 1 := ⟨j - 1, by omega⟩
      have hz' : z = (jj : Int) := by omega
      subst hz'
      clear hz hj0
      have hjI : (jj : Int) < (n0 : Int) := by omega
      have hj0 : (0 : Int) ≤ (jj : Int) := by omega
      obtain ⟨b0, o0, rfl, hb0⟩ := HR0.out.form (by omega)
      obtain ⟨L, m, s, ns, cs, hg, _, g0, _, hE⟩ := HR0.out.run (Below.refl _ w) jj (by omega)
      have HST : Hid (upP M B0 jj = upP M B0 (jj + 1) ++ [L]) := upP_step hg
      have HE : Hid (EntsAt w s ns cs L) := hE.1
      have g0 := cell_later (HKB.out wr HB.out) g0
      have zr := Nat.lt_of_lt_of_le hb0 (HKB.out wr HB.out).size
      clear hg hE
      go_wp2_with (at_builtin; refine wpList_append_own_at _ rfl _ _ 103 rfl (X + 1) 33 i0 _ 1 24 Tryz.underlying103 hi hz0 hz1 hz2 rfl (by decide) _ _ _ rfl (HP.out.owns.alloc _) ⟨wr.heap.size, 0, none⟩ 1 1 [.slice s ns cs] rfl rfl ?q1 ?q2 ?q3 ?q4 ?q5 ?_)
      case q2 => first | rfl | simp
      case q3 => unfold maxLen; omega
      case q4 => omega
      case q5 => have := HSB.out wr HB.out; simp; omega
      intro v' w2 hown' hgrow hnil hat
      obtain ⟨g2, cap2, rfl⟩ : ∃ g cap, v' = .slice (some ⟨g, 0, none⟩) (n + 1) cap := by
        rcases hown'.2 with ⟨hv, h0⟩ | ⟨g, cap, cur, hv, _⟩
        · omega
        · exact ⟨g, cap, hv⟩
      have HP2 : Hid (PartsOwn w2 (X + 1) g2 (n + 1) cap2 (upP M B0 jj) (vs ++ [.slice s ns cs]) none) := by
        have hka : ∀ o, Below wr.heap.size wr (wr.alloc o) := fun o => (Below.refl _ _).alloc (Nat.le_refl _) o
        have kw := HKB.out wr HB.out
        have h1 := (HP.out.below (hka _)).push hown' hgrow (by rcases hat with h | h; exact .inl (Option.some.inj h); exact .inr (by have h1 : g2 = wr.heap.size + 1 := Option.some.inj h; simpa using h1)) (HE.out.keep (kw.trans ((hka _).mono kw.size))) (fun x e hp => by
          have h2 := (HE.out.lies x e hp).1
          have h3 := (HP.out.owns.lt g rfl).1
          have h4 := HXw.out
          omega)
        show PartsOwn _ _ _ _ _ _ _ _
        rw [HST.out]
        exact h1
      have HB2 : Hid (Below (X + 1) W w2) := (HB.out.alloc (HSB.out wr HB.out) _).grown hgrow (by have := HSB.out wr HB.out; simp; omega) (fun q hq => (HP.out.owns.lt q hq).1)
      clear hown' hgrow hnil hat
      go_wp2
      go_roundw
      case rel => exact ⟨jj, n + 1, g2, cap2, _, (jj : Int) - 1, by omega, rfl, by go_num, rfl, HP2.out, HB2.out⟩
      case measure => simp [intOf] <;> omega
end Go.Proofs.YtapjkbpfhmbfaaaGreatDoor
