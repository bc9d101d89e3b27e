/-
  Pieces of TreeOk: the document's l5Aged, by a walk of its Go text.
-/
import Derived.Test.YthhiahjafhkbbaaGreatBn12
import Derived.Test.YthhiahjafhkbbaaGreatBn14
namespace Go.Proofs.YthhiahjafhkbbaaGreat
open Go.RowKit

/-- List number i is above list number k. -/
def above2 (P : List (List EntD)) (i k : Nat) : Bool := match P[i]? with | none => true | some A => match P[k]? with | none => true | some B => aboveB A B
theorem above2_at {P : List (List EntD)} {i k : Nat} {A B : List EntD} (h : P[i]? = some A) (h' : P[k]? = some B) : above2 P i k = aboveB A B := by
  unfold above2
  simp only [h, h']
def AgedTo (P : List (List EntD)) (i : Nat) : Prop := ∀ j k, j < i → j < k → k < P.length → above2 P j k = true
def AgedIn (P : List (List EntD)) (i k : Nat) : Prop := ∀ j, i < j → j < k → above2 P i j = true
/-- Each list is above those behind it. -/
def agedB (P : List (List EntD)) : Bool := (List.range P.length).all fun i => (List.range P.length).all fun k => !decide (i < k) || above2 P i k
theorem aged_no {P : List (List EntD)} {i k : Nat} (hi : i < k) (hk : k < P.length) (h : above2 P i k = false) : agedB P = false := by
  rw [Bool.eq_false_iff]
  intro h1
  unfold agedB at h1
  rw [List.all_eq_true] at h1
  have h2 := h1 i (List.mem_range.2 (by omega))
  rw [List.all_eq_true] at h2
  have h3 := h2 k (List.mem_range.2 hk)
  rw [h, decide_eq_true hi] at h3
  cases h3
theorem aged_all {P : List (List EntD)} (h : AgedTo P P.length) : agedB P = true := by
  unfold agedB
  rw [List.all_eq_true]
  intro i hi
  rw [List.all_eq_true]
  intro k hk
  by_cases e : i < k
  · rw [h i k (List.mem_range.1 hi) e (List.mem_range.1 hk)]; simp
  · rw [decide_eq_false e]; rfl
theorem aged_in {P : List (List EntD)} {i k : Nat} (h : AgedIn P i k) (hk : above2 P i k = true) : AgedIn P i (k + 1) := by
  intro j h1 h2
  by_cases e : j = k
  · subst e; exact hk
  · exact h j h1 (by omega)
theorem aged_to {P : List (List EntD)} {i : Nat} (h : AgedTo P i) (hi : AgedIn P i P.length) : AgedTo P (i + 1) := by
  intro j k h1 h2 h3
  by_cases e : j = i
  · subst e; exact hi k h2 h3
  · exact h j k (by omega) h2 h3

set_option maxRecDepth 100000 in
set_option maxHeartbeats 8000000 in
theorem specAged (sq : Int) (am av ak : Option Addr) (nm cm nv cv nk ck : Nat) (P : List (List EntD)) (w : World)
    (hp : ∀ w1, Below w.heap.size w w1 → Calls Tryz.prog 69 #[.agg #[.int .i64 sq, .slice am nm cm, .slice av nv cv, .slice ak nk ck]] w1 fun e w' => ∃ a n c, e = .returned (.slice a n c) ∧ PartsAt w' a n c P ∧ Below w1.heap.size w1 w') :
    Calls Tryz.prog 99 #[.agg #[.int .i64 sq, .slice am nm cm, .slice av nv cv, .slice ak nk ck]] w fun e w' => e = .returned (.bool (agedB P)) ∧ Below w.heap.size w w' := by
  go_enter Tryz.func99, Tryz.ntmps99
  go_wp2_with fail
  refine (hp _ ((Below.refl _ _).alloc (Nat.le_refl _) _)).mono ?_
  rintro e w2 ⟨a, n, c, rfl, hP, hb2⟩
  have K1 : ∀ o, Below w.heap.size w (w.alloc o) := fun o => (Below.refl _ _).alloc (Nat.le_refl _) o
  have K2 : Hid (Below w.heap.size w w2) := (K1 _).trans (hb2.mono (K1 _).size)
  clear hb2 hp K1
  have HLN : Hid (P.length = n) := hP.length
  have hr := hP.room
  have hbg := hP.big
  unfold maxLen at hbg
  have H : Hid (PartsAt w2 a n c P) := hP
  clear hP
  go_wp2
  go_loopw [4] (fun iv wr => ∃ i : Nat, i ≤ n ∧ iv = .int .i64 i ∧ Below w2.heap.size w2 wr ∧ AgedTo P i) (fun iv _ => n - (intOf iv).toNat)
  case atStart => exact ⟨0, Nat.zero_le _, rfl, Below.refl _ _, fun j k hj => absurd hj (Nat.not_lt_zero _)⟩
  case round =>
    obtain ⟨i, hi, rfl, hb, hw⟩ := hrel
    have HW : Hid (AgedTo P i) := hw
    have HB : Hid (Below w2.heap.size w2 wr) := hb
    clear hw hb
    by_cases hin : i < n
    · have hinI : (i : Int) < (n : Int) := by omega
      obtain ⟨b, off, rfl, hbb⟩ := H.out.form (by omega)
      go_wp2
      go_loopw [5] (fun kv wq => ∃ k : Nat, i < k ∧ k ≤ n ∧ kv = .int .i64 k ∧ Below w2.heap.size w2 wq ∧ AgedIn P i k) (fun kv _ => n - (intOf kv).toNat)
      case atStart => exact ⟨i + 1, by omega, by omega, by go_num, HB.out, fun j h1 h2 => absurd h2 (by omega)⟩
      case round =>
        obtain ⟨k, hik, hk, rfl, hbk, hwk⟩ := hrel
        have HWK : Hid (AgedIn P i k) := hwk
        have HBK : Hid (Below w2.heap.size w2 wr) := hbk
        clear hwk
        by_cases hkn : k < n
        · have hknI : (k : Int) < (n : Int) := by omega
          obtain ⟨A, s1, n1, c1, hA, g1, hE1⟩ := H.out.list hbk i hin
          obtain ⟨B, s2, n2, c2, hB, g2, hE2⟩ := H.out.list hbk k hkn
          have HAT : Hid (above2 P i k = aboveB A B) := above2_at hA hB
          have HKL : Hid (k < P.length) := by show k < P.length; rw [HLN.out]; exact hkn
          have zb := Nat.lt_of_lt_of_le hbb hbk.size
          have CA : Hid (∀ w', Below wr.heap.size wr w' → Calls Tryz.prog 131 #[.slice s1 n1 c1, .slice s2 n2 c2] w' fun e w'' => e = .returned (.bool (aboveB A B)) ∧ Below w'.heap.size w' w'') := fun w' kk => specAbove s1 s2 n1 c1 n2 c2 A B w' (hE1.keep kk) (hE2.keep kk)
          have HMK : Hid (∀ w', Below wr.heap.size wr w' → (w'.cell? ⟨b, off + i, none⟩ = some (.slice s1 n1 c1) ∧ w'.cell? ⟨b, off + k, none⟩ = some (.slice s2 n2 c2) ∧ b < w'.heap.size)) := fun w' kk => ⟨cell_later kk g1, cell_later kk g2, Nat.lt_of_lt_of_le zb kk.size⟩
          have k0 : Below wr.heap.size wr wr.drew := (Below.refl _ wr).drew
          clear hA hB g1 g2 hE1 hE2 zb hbk
          obtain ⟨O, hO⟩ : ∃ O, O = aboveB A B := ⟨_, rfl⟩
          rw [← hO] at CA HAT
          clear hO
          cases O with
          | true =>
            go_wp2_with fail
            refine wp_region_held_drew (S := (fun w' => w'.cell? ⟨b, off + i, none⟩ = some (.slice s1 n1 c1) ∧ w'.cell? ⟨b, off + k, none⟩ = some (.slice s2 n2 c2) ∧ b < w'.heap.size)) (by kernel_rfl) (HMK.out _ k0) (fun hHeld => ?_)
            refine wpAnyH_takeL (i := 0) (v := ?_) rfl (by kernel_rfl) (by kernel_rfl) (by kernel_rfl) (fun _ _ _ h => h) (Or.inl ⟨by rfl, ?_⟩) hHeld ?_
            rotate_left
            · (intro w hSw; (try dsimp only at hSw); go_simp; try with_reducible rfl)
            try go_frame
            refine wpAnyH_takeL (i := 1) (v := ?_) rfl (by kernel_rfl) (by kernel_rfl) (by kernel_rfl) (fun _ _ _ h => h) (Or.inl ⟨by rfl, ?_⟩) hHeld ?_
            rotate_left
            · (intro w hSw; (try dsimp only at hSw); go_simp; try with_reducible rfl)
            try go_frame
            refine wpAnyH_takeL (i := 2) (v := ?_) rfl (by kernel_rfl) (by kernel_rfl) (by kernel_rfl) (fun _ _ _ h => h) (Or.inl ⟨by rfl, ?_⟩) hHeld ?_
            rotate_left
            · (intro w hSw; (try dsimp only at hSw); go_simp; try with_reducible rfl)
            try go_frame
            refine wpAnyH_takeL (i := 3) (v := ?_) rfl (by kernel_rfl) (by kernel_rfl) (by kernel_rfl) (fun _ _ _ h => h) (Or.inl ⟨by rfl, ?_⟩) hHeld ?_
            rotate_left
            · (intro w hSw; (try dsimp only at hSw); go_simp; try with_reducible rfl)
            try go_frame
            refine wpAnyH_takeL (i := 4) (v := ?_) rfl (by kernel_rfl) (by kernel_rfl) (by kernel_rfl) (fun _ _ _ h => h) (Or.inl ⟨by rfl, ?_⟩) hHeld ?_
            rotate_left
            · (intro w hSw; (try dsimp only at hSw); go_simp; try with_reducible rfl)
            try go_frame
            refine wpAnyH_takeL (i := 5) (v := ?_) rfl (by kernel_rfl) (by kernel_rfl) (by kernel_rfl) (fun _ _ _ h => h) (Or.inl ⟨by rfl, ?_⟩) hHeld ?_
            rotate_left
            · (intro w hSw; (try dsimp only at hSw); go_simp; try with_reducible rfl)
            try go_frame
            refine wpAnyH_takeL (i := 6) (v := ?_) rfl (by kernel_rfl) (by kernel_rfl) (by kernel_rfl) (fun _ _ _ h => h) (Or.inl ⟨by rfl, ?_⟩) hHeld ?_
            rotate_left
            · (intro w hSw; (try dsimp only at hSw); go_simp; try with_reducible rfl)
            try go_frame
            refine wpAnyH_takeL (i := 7) (v := ?_) rfl (by kernel_rfl) (by kernel_rfl) (by kernel_rfl) (fun _ _ _ h => h) (Or.inl ⟨by rfl, ?_⟩) hHeld ?_
            rotate_left
            · (intro w hSw; (try dsimp only at hSw); go_simp; try with_reducible rfl)
            try go_frame
            refine wpAnyH_ready (rs := [8]) (by kernel_rfl) (by simp) ?_
            refine consL rfl (fun K hK => ?_) AllReadyH.nil
            go_simp
            refine (CA.out _ k0).mono ?_
            rintro e wk1 ⟨rfl, bk1⟩
            have k1 : Below wr.heap.size wr wk1 := k0.trans (bk1.mono k0.size)
            go_wp2_with fail
            refine hK.out _ _ (HMK.out _ k1) (fun hHeld => ?_)
            clear hK K
            try go_frame
            refine wpAnyH_takeL (i := 9) (v := ?_) rfl (by kernel_rfl) (by kernel_rfl) (by kernel_rfl) (fun _ _ _ h => h) (Or.inl ⟨by rfl, ?_⟩) hHeld ?_
            rotate_left
            · (intro w hSw; (try dsimp only at hSw); go_simp; try with_reducible rfl)
            try go_frame
            refine wpAnyH_done (by kernel_rfl) ?_ _
            have KY : Hid (Below w2.heap.size w2 wk1) := HBK.out.trans (k1.mono HBK.out.size)
            clear k0 k1 bk1 HMK CA hHeld
            go_wp2
            go_roundw
            case rel => exact ⟨k + 1, by omega, by omega, by go_num, KY.out, aged_in HWK.out HAT.out⟩
            case measure => simp [intOf]; omega
          | false =>
            go_wp2_with fail
            refine wp_region_held_drew (S := (fun w' => w'.cell? ⟨b, off + i, none⟩ = some (.slice s1 n1 c1) ∧ w'.cell? ⟨b, off + k, none⟩ = some (.slice s2 n2 c2) ∧ b < w'.heap.size)) (by kernel_rfl) (HMK.out _ k0) (fun hHeld => ?_)
            refine wpAnyH_takeL (i := 0) (v := ?_) rfl (by kernel_rfl) (by kernel_rfl) (by kernel_rfl) (fun _ _ _ h => h) (Or.inl ⟨by rfl, ?_⟩) hHeld ?_
            rotate_left
            · (intro w hSw; (try dsimp only at hSw); go_simp; try with_reducible rfl)
            try go_frame
            refine wpAnyH_takeL (i := 1) (v := ?_) rfl (by kernel_rfl) (by kernel_rfl) (by kernel_rfl) (fun _ _ _ h => h) (Or.inl ⟨by rfl, ?_⟩) hHeld ?_
            rotate_left
            · (intro w hSw; (try dsimp only at hSw); go_simp; try with_reducible rfl)
            try go_frame
            refine wpAnyH_takeL (i := 2) (v := ?_) rfl (by kernel_rfl) (by kernel_rfl) (by kernel_rfl) (fun _ _ _ h => h) (Or.inl ⟨by rfl, ?_⟩) hHeld ?_
            rotate_left
            · (intro w hSw; (try dsimp only at hSw); go_simp; try with_reducible rfl)
            try go_frame
            refine wpAnyH_takeL (i := 3) (v := ?_) rfl (by kernel_rfl) (by kernel_rfl) (by kernel_rfl) (fun _ _ _ h => h) (Or.inl ⟨by rfl, ?_⟩) hHeld ?_
            rotate_left
            · (intro w hSw; (try dsimp only at hSw); go_simp; try with_reducible rfl)
            try go_frame
            refine wpAnyH_takeL (i := 4) (v := ?_) rfl (by kernel_rfl) (by kernel_rfl) (by kernel_rfl) (fun _ _ _ h => h) (Or.inl ⟨by rfl, ?_⟩) hHeld ?_
            rotate_left
            · (intro w hSw; (try dsimp only at hSw); go_simp; try with_reducible rfl)
            try go_frame
            refine wpAnyH_takeL (i := 5) (v := ?_) rfl (by kernel_rfl) (by kernel_rfl) (by kernel_rfl) (fun _ _ _ h => h) (Or.inl ⟨by rfl, ?_⟩) hHeld ?_
            rotate_left
            · (intro w hSw; (try dsimp only at hSw); go_simp; try with_reducible rfl)
            try go_frame
            refine wpAnyH_takeL (i := 6) (v := ?_) rfl (by kernel_rfl) (by kernel_rfl) (by kernel_rfl) (fun _ _ _ h => h) (Or.inl ⟨by rfl, ?_⟩) hHeld ?_
            rotate_left
            · (intro w hSw; (try dsimp only at hSw); go_simp; try with_reducible rfl)
            try go_frame
            refine wpAnyH_takeL (i := 7) (v := ?_) rfl (by kernel_rfl) (by kernel_rfl) (by kernel_rfl) (fun _ _ _ h => h) (Or.inl ⟨by rfl, ?_⟩) hHeld ?_
            rotate_left
            · (intro w hSw; (try dsimp only at hSw); go_simp; try with_reducible rfl)
            try go_frame
            refine wpAnyH_ready (rs := [8]) (by kernel_rfl) (by simp) ?_
            refine consL rfl (fun K hK => ?_) AllReadyH.nil
            go_simp
            refine (CA.out _ k0).mono ?_
            rintro e wk1 ⟨rfl, bk1⟩
            have k1 : Below wr.heap.size wr wk1 := k0.trans (bk1.mono k0.size)
            go_wp2_with fail
            refine hK.out _ _ (HMK.out _ k1) (fun hHeld => ?_)
            clear hK K
            try go_frame
            refine wpAnyH_takeL (i := 9) (v := ?_) rfl (by kernel_rfl) (by kernel_rfl) (by kernel_rfl) (fun _ _ _ h => h) (Or.inl ⟨by rfl, ?_⟩) hHeld ?_
            rotate_left
            · (intro w hSw; (try dsimp only at hSw); go_simp; try with_reducible rfl)
            try go_frame
            refine wpAnyH_done (by kernel_rfl) ?_ _
            have KY : Hid (Below w2.heap.size w2 wk1) := HBK.out.trans (k1.mono HBK.out.size)
            clear k0 k1 bk1 HMK CA hHeld
            go_wp2
            go_ret
            exact ⟨ret_bool (aged_no hik HKL.out HAT.out).symm, K2.out.trans (KY.out.mono K2.out.size)⟩
        · have hknI : ¬ (k : Int) < (n : Int) := by omega
          have HN : Hid (AgedTo P (i + 1)) := by
            have h1 := HWK.out
            have h2 : k = P.length := by rw [HLN.out]; omega
            rw [h2] at h1
            exact aged_to HW.out h1
          go_wp2
          go_roundw
          case rel => exact ⟨i + 1, by omega, by go_num, HBK.out, HN.out⟩
          case measure => simp [intOf]; omega
    · have hinI : ¬ (i : Int) < (n : Int) := by omega
      have HC : Hid (agedB P = true) := by
        have hw := HW.out
        have hii : i = P.length := by rw [HLN.out]; omega
        rw [hii] at hw
        exact aged_all hw
      go_wp2
      go_ret
      exact ⟨ret_bool HC.out.symm, K2.out.trans (HB.out.mono K2.out.size)⟩
end Go.Proofs.YthhiahjafhkbbaaGreat
