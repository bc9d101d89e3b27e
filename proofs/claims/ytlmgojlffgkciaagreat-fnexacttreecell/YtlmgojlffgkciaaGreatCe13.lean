/-
  Rows of lists of entries of a call's own; no statement of the program stands here.
  Pieces of TreeOk: the document's l5Aged, by a walk of its Go text.
-/
import Derived.Maps.AppendAt
import Derived.Test.YtlmgojlffgkciaaGreatCe12
import Derived.Test.YtlmgojlffgkciaaGreatCe11
namespace Go.Proofs.YtlmgojlffgkciaaGreat
open Go.RowKit
structure PartsAt (w : World) (a : Option Addr) (n c : Nat) (P : List (List EntD)) : Prop where
  length : P.length = n
  room : n ≤ c
  big : c ≤ maxLen
  nil : a = none → n = 0
  lies : ∀ x, a = some x → 0 < n → x.block < w.heap.size ∧ x.spot = none
  lists : ∀ x, a = some x → ∀ i (h : i < P.length), ∃ s m d, w.cell? ⟨x.block, x.off + i, none⟩ = some (.slice s m d) ∧ EntsAt w s m d P[i]
theorem PartsAt.keep {w w' : World} {a : Option Addr} {n c : Nat} {P : List (List EntD)} (h : PartsAt w a n c P) (hb : Below w.heap.size w w') : PartsAt w' a n c P where
  length := h.length
  room := h.room
  big := h.big
  nil := h.nil
  lies := fun x e hp => ⟨Nat.lt_of_lt_of_le (h.lies x e hp).1 hb.size, (h.lies x e hp).2⟩
  lists := fun x e i hi => by
    obtain ⟨s, m, d, c0, hL⟩ := h.lists x e i hi
    exact ⟨s, m, d, cell_later hb c0, hL.keep hb⟩
theorem PartsAt.form {w : World} {a : Option Addr} {n c : Nat} {P : List (List EntD)} (h : PartsAt w a n c P) (hl : 1 ≤ n) : ∃ b off, a = some ⟨b, off, none⟩ ∧ b < w.heap.size := by
  cases a with
  | none => have := h.nil rfl; omega
  | some x =>
    obtain ⟨b, off, spot⟩ := x
    obtain ⟨h1, h2⟩ := h.lies _ rfl (by omega)
    simp only at h1 h2
    subst h2
    exact ⟨b, off, rfl, h1⟩
theorem PartsAt.list {w wr : World} {b off n c : Nat} {P : List (List EntD)} (h : PartsAt w (some ⟨b, off, none⟩) n c P) (hb : Below w.heap.size w wr) (k : Nat) (hk : k < n) :
    ∃ A s m d, P[k]? = some A ∧ wr.cell? ⟨b, off + k, none⟩ = some (.slice s m d) ∧ EntsAt wr s m d A := by
  have hk' : k < P.length := by rw [h.length]; exact hk
  obtain ⟨s, m, d, c0, hL⟩ := (h.keep hb).lists _ rfl k hk'
  exact ⟨P[k], s, m, d, List.getElem?_eq_getElem hk', c0, hL⟩
theorem Tryz.infoEntS : (Tryz.prog.info? 28).map (fun i => (i.zero, i.size, i.bytes)) = some (some (.slice none 0 0), 1, 24) := by kernel_rfl
structure PartsOwn (w : World) (base g n c : Nat) (P : List (List EntD)) (vs : List Value) (y : Option Nat) : Prop where
  owns : w.ownsRow base 28 1 (.slice (some ⟨g, 0, none⟩) n c) n vs
  len : P.length = n
  ne : some g ≠ y
  lists : ∀ (i : Nat) A, P[i]? = some A → ∃ s m d, vs[i]? = some (.slice s m d) ∧ EntsAt w s m d A ∧ ∀ x, s = some x → 0 < m → x.block ≠ g ∧ some x.block ≠ y
theorem EntsAt.grownB {w w' : World} {s : Option Addr} {m d : Nat} {A : List EntD} {row : Option Nat} (h : EntsAt w s m d A) (hg : w.grownBy w' row) (hne : ∀ x, s = some x → 0 < m → some x.block ≠ row) : EntsAt w' s m d A :=
  h.moved hg.size (fun x e hp o => World.cell?_of_block (a := ⟨x.block, o, none⟩) (hg.block x.block (h.lies x e hp).1 (hne x e hp)))
theorem PartsOwn.partsAt {w : World} {base g n c : Nat} {P : List (List EntD)} {vs : List Value} {y : Option Nat} (h : PartsOwn w base g n c P vs y) : PartsAt w (some ⟨g, 0, none⟩) n c P := by
  have hlt := (h.owns.lt g rfl).2
  have hrc : n ≤ c ∧ c ≤ maxLen := by
    rcases h.owns.2 with ⟨h', _⟩ | ⟨g', cap', cur, h', _, _, hnc, hcm, _, _⟩
    · simp at h'
    · simp only [Value.slice.injEq, Option.some.injEq, Addr.mk.injEq, and_true, true_and] at h'
      obtain ⟨rfl, rfl⟩ := h'
      exact ⟨hnc, hcm⟩
  refine ⟨h.len, hrc.1, hrc.2, (fun e => by cases e), ?_, ?_⟩
  · rintro x e _
    cases e
    exact ⟨hlt, rfl⟩
  · rintro x e i hi
    cases e
    obtain ⟨s, m, d, hv, hE, _⟩ := h.lists i _ (List.getElem?_eq_getElem hi)
    refine ⟨s, m, d, ?_, hE⟩
    have := h.owns.cellAt i (by rw [← h.len]; omega)
    rw [hv] at this
    simpa using this
theorem PartsOwn.grown {w w' : World} {base g n c : Nat} {P : List (List EntD)} {vs : List Value} {y row : Option Nat} (h : PartsOwn w base g n c P vs y) (hg : w.grownBy w' row) (hr : ∀ k, row = some k → y = some k) : PartsOwn w' base g n c P vs y where
  owns := h.owns.kept hg (.inr (fun e => h.ne (by rw [hr g e.symm])))
  len := h.len
  ne := h.ne
  lists := fun i A hA => by
    obtain ⟨s, m, d, hv, hE, hx⟩ := h.lists i A hA
    exact ⟨s, m, d, hv, hE.grownB hg (fun x e hp e' => (hx x e hp).2 (hr _ e'.symm).symm), hx⟩
theorem grown_none {w w' : World} (hb : Below w.heap.size w w') : w.grownBy w' none := ⟨hb.os, hb.tape, hb.output, hb.size, fun k hk _ => hb.block k hk⟩
theorem PartsOwn.below {w w' : World} {base g n c : Nat} {P : List (List EntD)} {vs : List Value} {y : Option Nat} (h : PartsOwn w base g n c P vs y) (hb : Below w.heap.size w w') : PartsOwn w' base g n c P vs y := h.grown (grown_none hb) (fun k e => by cases e)
theorem PartsOwn.turn {w : World} {base g n c : Nat} {P : List (List EntD)} {vs : List Value} {y : Option Nat} (h : PartsOwn w base g n c P vs y) {y' : Option Nat} (hy : y' = y ∨ y' = none ∨ y' = some w.heap.size) : PartsOwn w base g n c P vs y' where
  owns := h.owns
  len := h.len
  ne := by
    rcases hy with rfl | rfl | rfl
    · exact h.ne
    · exact fun e => by cases e
    · intro e; have h1 := (h.owns.lt g rfl).2; have h2 := Option.some.inj e; omega
  lists := fun i A hA => by
    obtain ⟨s, m, d, hv, hE, hx⟩ := h.lists i A hA
    refine ⟨s, m, d, hv, hE, fun x e hp => ⟨(hx x e hp).1, ?_⟩⟩
    rcases hy with rfl | rfl | rfl
    · exact (hx x e hp).2
    · exact fun e => by cases e
    · intro e'; have h1 := (hE.lies x e hp).1; have h2 := Option.some.inj e'; omega
theorem PartsOwn.push {w w' : World} {base g n c g2 c2 : Nat} {P : List (List EntD)} {vs : List Value} {y : Option Nat} (h : PartsOwn w base g n c P vs y) {s : Option Addr} {m d : Nat} {A : List EntD}
    (ho : w'.ownsRow base 28 1 (.slice (some ⟨g2, 0, none⟩) (n + 1) c2) (n + 1) (vs ++ [.slice s m d])) (hg : w.grownBy w' (some g)) (h2 : g2 = g ∨ g2 = w.heap.size)
    (hE : EntsAt w s m d A) (hx : ∀ x, s = some x → 0 < m → x.block ≠ g) : PartsOwn w' base g2 (n + 1) c2 (P ++ [A]) (vs ++ [.slice s m d]) none where
  owns := ho
  len := by rw [List.length_append, h.len]; rfl
  ne := fun e => by cases e
  lists := fun i B hB => by
    have hvl : vs.length = n := by have := h.owns.1; omega
    by_cases hi : i < n
    · rw [List.getElem?_append_left (by rw [h.len]; exact hi)] at hB
      obtain ⟨s', m', d', hv, hE', hx'⟩ := h.lists i B hB
      refine ⟨s', m', d', by rw [List.getElem?_append_left (by rw [hvl]; exact hi)]; exact hv, hE'.grownB hg (fun x e hp e' => (hx' x e hp).1 (by cases e'; rfl)), fun x e hp => ⟨?_, fun e => by cases e⟩⟩
      rcases h2 with rfl | rfl
      · exact (hx' x e hp).1
      · have := (hE'.lies x e hp).1; omega
    · rw [List.getElem?_append_right (by rw [h.len]; omega), h.len] at hB
      have hi0 : i - n = 0 := by
        by_cases e : i - n = 0
        · exact e
        · rw [List.getElem?_eq_none (by simp; omega)] at hB; cases hB
      rw [hi0] at hB
      simp at hB
      subst hB
      refine ⟨s, m, d, by rw [List.getElem?_append_right (by rw [hvl]; omega), hvl, hi0]; rfl, hE.grownB hg (fun x e hp e' => hx x e hp (by cases e'; rfl)), fun x e hp => ⟨?_, fun e => by cases e⟩⟩
      rcases h2 with rfl | rfl
      · exact hx x e hp
      · have := (hE.lies x e hp).1; omega
end Go.Proofs.YtlmgojlffgkciaaGreat

namespace Go.Proofs.YtlmgojlffgkciaaGreat
open Go.RowKit
set_option maxRecDepth 100000
set_option maxHeartbeats 8000000
def above2 (P : List (List EntD)) (i k : Nat) : Bool := match P[i]? with | none => true | some A => match P[k]? with | none => true | some B => aboveB A B
theorem above2_at {P : List (List EntD)} {i k : Nat} {A B : List EntD} (h : P[i]? = some A) (h' : P[k]? = some B) : above2 P i k = aboveB A B := by
  unfold above2
  simp only [h, h']
def AgedTo (P : List (List EntD)) (i : Nat) : Prop := ∀ j k, j < i → j < k → k < P.length → above2 P j k = true
def AgedIn (P : List (List EntD)) (i k : Nat) : Prop := ∀ j, i < j → j < k → above2 P i j = true
def agedB (P : List (List EntD)) : Bool := (List.range P.length).all fun i => (List.range P.length).all fun k => !decide (i < k) || above2 P i k
theorem aged_no {P : List (List EntD)} {i k : Nat} (hi : i < k) (hk : k < P.length) (h : above2 P i k = false) : agedB P = false := by
  rw [Bool.eq_false_iff]
  intro h1
  unfold agedB at h1
  rw [List.all_eq_true] at h1
  have h2 := h1 i (List.mem_range.2 (by omega))
  rw [List.all_eq_true] at h2
  have h3 := h2 k (List.mem_range.2 hk)
  rw [h, decide_eq_true hi] at h3
  cases h3
theorem aged_all {P : List (List EntD)} (h : AgedTo P P.length) : agedB P = true := by
  unfold agedB
  rw [List.all_eq_true]
  intro i hi
  rw [List.all_eq_true]
  intro k hk
  by_cases e : i < k
  · rw [h i k (List.mem_range.1 hi) e (List.mem_range.1 hk)]; simp
  · rw [decide_eq_false e]; rfl
theorem aged_in {P : List (List EntD)} {i k : Nat} (h : AgedIn P i k) (hk : above2 P i k = true) : AgedIn P i (k + 1) := by
  intro j h1 h2
  by_cases e : j = k
  · subst e; exact hk
  · exact h j h1 (by omega)
theorem aged_to {P : List (List EntD)} {i : Nat} (h : AgedTo P i) (hi : AgedIn P i P.length) : AgedTo P (i + 1) := by
  intro j k h1 h2 h3
  by_cases e : j = i
  · subst e; exact hi k h2 h3
  · exact h j k (by omega) h2 h3
theorem specAged (sq : Int) (am av ak : Option Addr) (nm cm nv cv nk ck : Nat) (P : List (List EntD)) (w : World)
    (hp : ∀ w1, Below w.heap.size w w1 → Calls Tryz.prog 68 #[.agg #[.int .i64 sq, .slice am nm cm, .slice av nv cv, .slice ak nk ck]] w1 fun e w' => ∃ a n c, e = .returned (.slice a n c) ∧ PartsAt w' a n c P ∧ Below w1.heap.size w1 w') :
    Calls Tryz.prog 76 #[.agg #[.int .i64 sq, .slice am nm cm, .slice av nv cv, .slice ak nk ck]] w fun e w' => e = .returned (.bool (agedB P)) ∧ Below w.heap.size w w' := by
  go_enter Tryz.func76, Tryz.ntmps76
  go_wp2_with fail
  refine (hp _ ((Below.refl _ _).alloc (Nat.le_refl _) _)).mono ?_
  rintro e w2 ⟨a, n, c, rfl, hP, hb2⟩
  have K1 : ∀ o, Below w.heap.size w (w.alloc o) := fun o => (Below.refl _ _).alloc (Nat.le_refl _) o
  have K2 : Hid (Below w.heap.size w w2) := (K1 _).trans (hb2.mono (K1 _).size)
  clear hb2 hp K1
  have HLN : Hid (P.length = n) := hP.length
  have hr := hP.room
  have hbg := hP.big
  unfold maxLen at hbg
  have H : Hid (PartsAt w2 a n c P) := hP
  clear hP
  go_wp2
  go_loopw [4] (fun iv wr => ∃ i : Nat, i ≤ n ∧ iv = .int .i64 i ∧ Below w2.heap.size w2 wr ∧ AgedTo P i) (fun iv _ => n - (intOf iv).toNat)
  case atStart => exact ⟨0, Nat.zero_le _, rfl, Below.refl _ _, fun j k hj => absurd hj (Nat.not_lt_zero _)⟩
  case round =>
    obtain ⟨i, hi, rfl, hb, hw⟩ := hrel
    have HW : Hid (AgedTo P i) := hw
    have HB : Hid (Below w2.heap.size w2 wr) := hb
    clear hw hb
    by_cases hin : i < n
    · have hinI : (i : Int) < (n : Int) := by omega
      obtain ⟨b, off, rfl, hbb⟩ := H.out.form (by omega)
      go_wp2
      go_loopw [5] (fun kv wq => ∃ k : Nat, i < k ∧ k ≤ n ∧ kv = .int .i64 k ∧ Below w2.heap.size w2 wq ∧ AgedIn P i k) (fun kv _ => n - (intOf kv).toNat)
      case atStart => exact ⟨i + 1, by omega, by omega, by go_num, HB.out, fun j h1 h2 => absurd h2 (by omega)⟩
      case round =>
        obtain ⟨k, hik, hk, rfl, hbk, hwk⟩ := hrel
        have HWK : Hid (AgedIn P i k) := hwk
        have HBK : Hid (Below w2.heap.size w2 wr) := hbk
        clear hwk
        by_cases hkn : k < n
        · have hknI : (k : Int) < (n : Int) := by omega
          obtain ⟨A, s1, n1, c1, hA, g1, hE1⟩ := H.out.list hbk i hin
          obtain ⟨B, s2, n2, c2, hB, g2, hE2⟩ := H.out.list hbk k hkn
          have HAT : Hid (above2 P i k = aboveB A B) := above2_at hA hB
          have HKL : Hid (k < P.length) := by show k < P.length; rw [HLN.out]; exact hkn
          have zb := Nat.lt_of_lt_of_le hbb hbk.size
          have CA : Hid (∀ w', Below wr.heap.size wr w' → Calls Tryz.prog 119 #[.slice s1 n1 c1, .slice s2 n2 c2] w' fun e w'' => e = .returned (.bool (aboveB A B)) ∧ Below w'.heap.size w' w'') := fun w' kk => specAbove s1 s2 n1 c1 n2 c2 A B w' (hE1.keep kk) (hE2.keep kk)
          have HMK : Hid (∀ w', Below wr.heap.size wr w' → (w'.cell? ⟨b, off + i, none⟩ = some (.slice s1 n1 c1) ∧ w'.cell? ⟨b, off + k, none⟩ = some (.slice s2 n2 c2) ∧ b < w'.heap.size)) := fun w' kk => ⟨cell_later kk g1, cell_later kk g2, Nat.lt_of_lt_of_le zb kk.size⟩
          have k0 : Below wr.heap.size wr wr.drew := (Below.refl _ wr).drew
          clear hA hB g1 g2 hE1 hE2 zb hbk
          obtain ⟨O, hO⟩ : ∃ O, O = aboveB A B := ⟨_, rfl⟩
          rw [← hO] at CA HAT
          clear hO
          cases O with
          | true =>
            go_wp2_with fail
            refine wp_region_held_drew (S := (fun w' => w'.cell? ⟨b, off + i, none⟩ = some (.slice s1 n1 c1) ∧ w'.cell? ⟨b, off + k, none⟩ = some (.slice s2 n2 c2) ∧ b < w'.heap.size)) (by kernel_rfl) (HMK.out _ k0) (fun hHeld => ?_)
            refine tkL 0 hHeld ?_; try go_frame
            refine tkL 1 hHeld ?_; try go_frame
            refine tkL 2 hHeld ?_; try go_frame
            refine tkL 3 hHeld ?_; try go_frame
            refine tkL 4 hHeld ?_; try go_frame
            refine tkL 5 hHeld ?_; try go_frame
            refine tkL 6 hHeld ?_; try go_frame
            refine tkL 7 hHeld ?_; try go_frame
            refine wpAnyH_ready (rs := [8]) (by kernel_rfl) (by simp) ?_
            refine consL rfl (fun K hK => ?_) AllReadyH.nil
            go_simp
            refine (CA.out _ k0).mono ?_
            rintro e wk1 ⟨rfl, bk1⟩
            have k1 : Below wr.heap.size wr wk1 := k0.trans (bk1.mono k0.size)
            go_wp2_with fail
            refine hK.out _ _ (HMK.out _ k1) (fun hHeld => ?_)
            clear hK K
            try go_frame
            refine tkL 9 hHeld ?_; try go_frame
            refine wpAnyH_done (by kernel_rfl) ?_ _
            have KY : Hid (Below w2.heap.size w2 wk1) := HBK.out.trans (k1.mono HBK.out.size)
            clear k0 k1 bk1 HMK CA hHeld
            go_wp2
            go_roundw
            case rel => exact ⟨k + 1, by omega, by omega, by go_num, KY.out, aged_in HWK.out HAT.out⟩
            case measure => simp [intOf]; omega
          | false =>
            go_wp2_with fail
            refine wp_region_held_drew (S := (fun w' => w'.cell? ⟨b, off + i, none⟩ = some (.slice s1 n1 c1) ∧ w'.cell? ⟨b, off + k, none⟩ = some (.slice s2 n2 c2) ∧ b < w'.heap.size)) (by kernel_rfl) (HMK.out _ k0) (fun hHeld => ?_)
            refine tkL 0 hHeld ?_; try go_frame
            refine tkL 1 hHeld ?_; try go_frame
            refine tkL 2 hHeld ?_; try go_frame
            refine tkL 3 hHeld ?_; try go_frame
            refine tkL 4 hHeld ?_; try go_frame
            refine tkL 5 hHeld ?_; try go_frame
            refine tkL 6 hHeld ?_; try go_frame
            refine tkL 7 hHeld ?_; try go_frame
            refine wpAnyH_ready (rs := [8]) (by kernel_rfl) (by simp) ?_
            refine consL rfl (fun K hK => ?_) AllReadyH.nil
            go_simp
            refine (CA.out _ k0).mono ?_
            rintro e wk1 ⟨rfl, bk1⟩
            have k1 : Below wr.heap.size wr wk1 := k0.trans (bk1.mono k0.size)
            go_wp2_with fail
            refine hK.out _ _ (HMK.out _ k1) (fun hHeld => ?_)
            clear hK K
            try go_frame
            refine tkL 9 hHeld ?_; try go_frame
            refine wpAnyH_done (by kernel_rfl) ?_ _
            have KY : Hid (Below w2.heap.size w2 wk1) := HBK.out.trans (k1.mono HBK.out.size)
            clear k0 k1 bk1 HMK CA hHeld
            go_wp2
            go_ret
            exact ⟨ret_bool (aged_no hik HKL.out HAT.out).symm, K2.out.trans (KY.out.mono K2.out.size)⟩
        · have hknI : ¬ (k : Int) < (n : Int) := by omega
          have HN : Hid (AgedTo P (i + 1)) := by
            have h1 := HWK.out
            have h2 : k = P.length := by rw [HLN.out]; omega
            rw [h2] at h1
            exact aged_to HW.out h1
          go_wp2
          go_roundw
          case rel => exact ⟨i + 1, by omega, by go_num, HBK.out, HN.out⟩
          case measure => simp [intOf]; omega
    · have hinI : ¬ (i : Int) < (n : Int) := by omega
      have HC : Hid (agedB P = true) := by
        have hw := HW.out
        have hii : i = P.length := by rw [HLN.out]; omega
        rw [hii] at hw
        exact aged_all hw
      go_wp2
      go_ret
      exact ⟨ret_bool HC.out.symm, K2.out.trans (HB.out.mono K2.out.size)⟩
end Go.Proofs.YtlmgojlffgkciaaGreat
