/-
  Pieces of TreeOk: the document's l5Runs, by a walk of its Go text.
  Rows of lists of entries of a call's own; no statement of the program stands here.
  Pieces of TreeOk: the document's l5Aged, by a walk of its Go text.
-/
import Derived.Test.YtlmgojlffgkciaaGreatGa12
import Derived.Maps.AppendAt
import Derived.Test.YtlmgojlffgkciaaGreatGa01
namespace Go.Proofs.YtlmgojlffgkciaaGreat
open Go.RowKit
set_option maxRecDepth 100000
set_option maxHeartbeats 16000000
def lowK (L : List EntD) : ByteArray := match L[0]? with | some e => e.1 | none => ⟨#[]⟩
def highK (L : List EntD) : ByteArray := match L[L.length - 1]? with | some e => e.1 | none => ⟨#[]⟩
def aheadB (A B : List EntD) : Bool := Op.bytesLess (highK A).toList (lowK B).toList
def behindB (B : List RunD) (r : RunD) (i : Nat) : Bool := match i with | 0 => true | j + 1 => match B[j]? with | none => true | some p => aheadB p.1 r.1
def runAt (B : List RunD) (ap : Bool) (q : Int) (i : Nat) : Bool :=
  match B[i]? with
  | none => true
  | some r => runB r.1 r.2 && (withinB r.1 q && (!ap || behindB B r i))
def RunsTo (B : List RunD) (ap : Bool) (q : Int) (k : Nat) : Prop := ∀ j, j < k → runAt B ap q j = true
def runsB (B : List RunD) (most : Int) (ap : Bool) (q : Int) : Bool := decide ((B.length : Int) ≤ most) && (List.range B.length).all (runAt B ap q)
theorem runs_many {B : List RunD} {most : Int} {ap : Bool} {q : Int} (h : most < (B.length : Int)) : runsB B most ap q = false := by
  unfold runsB
  rw [decide_eq_false (by omega)]
  rfl
theorem runs_no {B : List RunD} {most : Int} {ap : Bool} {q : Int} {k : Nat} (hk : k < B.length) (h : runAt B ap q k = false) : runsB B most ap q = false := by
  unfold runsB
  rw [Bool.and_eq_false_iff]
  right
  rw [Bool.eq_false_iff]
  intro h1
  rw [List.all_eq_true] at h1
  rw [h1 k (List.mem_range.2 hk)] at h
  cases h
theorem runs_all {B : List RunD} {most : Int} {ap : Bool} {q : Int} (h : RunsTo B ap q B.length) (hm : (B.length : Int) ≤ most) : runsB B most ap q = true := by
  unfold runsB
  rw [decide_eq_true hm, Bool.true_and, List.all_eq_true]
  intro j hj
  exact h j (List.mem_range.1 hj)
theorem runs_snoc {B : List RunD} {ap : Bool} {q : Int} {k : Nat} (h : RunsTo B ap q k) (hk : runAt B ap q k = true) : RunsTo B ap q (k + 1) := by
  intro j hj
  by_cases e : j = k
  · subst e; exact hk
  · exact h j (by omega)
theorem runAt_some {B : List RunD} {ap : Bool} {q : Int} {i : Nat} {r : RunD} (h : B[i]? = some r) : runAt B ap q i = (runB r.1 r.2 && (withinB r.1 q && (!ap || behindB B r i))) := by
  unfold runAt
  simp only [h]
theorem runAt_prev {B : List RunD} {ap : Bool} {q : Int} {i : Nat} {r p : RunD} (h : B[i]? = some r) (hi : 0 < i) (hp : B[i - 1]? = some p) : runAt B ap q i = (runB r.1 r.2 && (withinB r.1 q && (!ap || aheadB p.1 r.1))) := by
  obtain ⟨j, rfl⟩ : ∃ j, i = j + 1 := ⟨i - 1, by omega⟩
  simp only [Nat.add_sub_cancel] at hp
  rw [runAt_some h]
  unfold behindB
  simp only [hp]
theorem lowK_at {L : List EntD} (h : 1 ≤ L.length) : ∃ e, L[0]? = some e ∧ lowK L = e.1 := by
  have hg : L[0]? = some L[0] := List.getElem?_eq_getElem (by omega)
  exact ⟨_, hg, by unfold lowK; rw [hg]⟩
theorem highK_at {L : List EntD} (h : 1 ≤ L.length) : ∃ e, L[L.length - 1]? = some e ∧ highK L = e.1 := by
  have hg : L[L.length - 1]? = some (L[L.length - 1]'(by omega)) := List.getElem?_eq_getElem (by omega)
  exact ⟨_, hg, by unfold highK; rw [hg]⟩
theorem specRuns (lo : Nat) (a : Option Addr) (n c : Nat) (B : List RunD) (most : Int) (ap : Bool) (q : Int) (w : World) (h : RunsIn lo w a n c B) :
    Calls Tryz.prog 75 #[.slice a n c, .int .i64 most, .bool ap, .int .i64 q] w fun e w' => e = .returned (.bool (runsB B most ap q)) ∧ Below w.heap.size w w' := by
  have HLN : Hid (B.length = n) := h.length
  have hr := h.room
  have hbg := h.big
  unfold maxLen at hbg
  have H : Hid (RunsIn lo w a n c B) := h
  clear h
  by_cases hm : most < (n : Int)
  · go_enter Tryz.func75, Tryz.ntmps75
    go_wp2
    go_ret
    exact ⟨ret_bool (runs_many (by rw [HLN.out]; exact hm)).symm, Below.refl _ _⟩
  go_enter Tryz.func75, Tryz.ntmps75
  go_wp2
  go_loopw [9] (fun iv wr => ∃ i : Nat, i ≤ n ∧ iv = .int .i64 i ∧ Below w.heap.size w wr ∧ RunsTo B ap q i) (fun iv _ => n - (intOf iv).toNat)
  case atStart => exact ⟨0, Nat.zero_le _, rfl, Below.refl _ _, fun j hj => absurd hj (Nat.not_lt_zero _)⟩
  case round =>
    obtain ⟨i, hi, rfl, hb, hw⟩ := hrel
    have HW : Hid (RunsTo B ap q i) := hw
    have HB : Hid (Below w.heap.size w wr) := hb
    clear hw
    by_cases hin : i < n
    · have hinI : (i : Int) < (n : Int) := by omega
      have HKL : Hid (i < B.length) := by show i < B.length; rw [HLN.out]; exact hin
      obtain ⟨b, off, rfl, hbb⟩ := H.out.form (by omega)
      obtain ⟨L, m, s, ns, cs, hg, _, g0, g1, hE⟩ := H.out.run hb i hin
      have HG : Hid (B[i]? = some (L, m)) := hg
      have HE : Hid (EntsIn lo wr s ns cs L) := hE
      have zb := Nat.lt_of_lt_of_le hbb hb.size
      clear hg hb hE
      obtain ⟨O, hO⟩ : ∃ O, O = runB L m := ⟨_, rfl⟩
      go_wp2_with fail
      refine (specRunOk _ _ _ L m wr HE.out.1).mono ?_
      rw [← hO]
      rintro e w1 ⟨rfl, hb1⟩
      have g0 := cell_later hb1 g0
      have g1 := cell_later hb1 g1
      have zb := Nat.lt_of_lt_of_le zb hb1.size
      have K1 : Hid (Below w.heap.size w w1) := HB.out.trans (hb1.mono HB.out.size)
      have E1 : Hid (EntsAt w1 s ns cs L) := HE.out.1.keep hb1
      clear hb1
      cases hOv : O with
      | false =>
        have HN : Hid (runAt B ap q i = false) := by show runAt B ap q i = false; rw [runAt_some HG.out, ← hO, hOv]; rfl
        go_wp2
        go_ret
        exact ⟨ret_bool (runs_no HKL.out HN.out).symm, K1.out⟩
      | true =>
        have HRB : Hid (runB L m = true) := by rw [← hO]; exact hOv
        clear hO hOv
        obtain ⟨T, hT⟩ : ∃ T, T = withinB L q := ⟨_, rfl⟩
        go_wp2_with fail
        refine (specWithin _ _ _ L q w1 E1.out).mono ?_
        rw [← hT]
        rintro e wr2 ⟨rfl, rfl⟩
        cases hTv : T with
        | false =>
          have HN : Hid (runAt B ap q i = false) := by show runAt B ap q i = false; rw [runAt_some HG.out, HRB.out, ← hT, hTv]; rfl
          go_wp2
          go_ret
          exact ⟨ret_bool (runs_no HKL.out HN.out).symm, K1.out⟩
        | true =>
          have HWI : Hid (withinB L q = true) := by rw [← hT]; exact hTv
          clear hT hTv
          have k0 : Below wr2.heap.size wr2 wr2.drew := (Below.refl _ wr2).drew
          have KZ : Hid (Below w.heap.size w wr2.drew) := K1.out.trans (k0.mono K1.out.size)
          have HMK : Hid (∀ w', Below wr2.heap.size wr2 w' → (b < w'.heap.size)) := fun w' kk => Nat.lt_of_lt_of_le zb kk.size
          cases ap with
          | false =>
          have HN : Hid (runAt B false q i = true) := by show runAt B false q i = true; rw [runAt_some HG.out, HRB.out, HWI.out]; rfl
          go_wp2_with fail
          refine wp_region_held_drew (S := (fun w' => b < w'.heap.size)) (by kernel_rfl) (HMK.out _ k0) (fun hHeld => ?_)
          refine tkL 0 hHeld ?_; try go_frame
          refine tkL 1 hHeld ?_; try go_frame
          refine tkN 2 hHeld ?_; try go_frame
          refine tkN 3 hHeld ?_; try go_frame
          refine tkL 4 hHeld ?_; try go_frame
          refine tkL 5 hHeld ?_; try go_frame
          refine tkN 6 hHeld ?_; try go_frame
          refine tkN 7 hHeld ?_; try go_frame
          refine tkN 8 hHeld ?_; try go_frame
          refine tkN 9 hHeld ?_; try go_frame
          refine tkN 10 hHeld ?_; try go_frame
          refine tkN 12 hHeld ?_; try go_frame
          refine tkN 13 hHeld ?_; try go_frame
          refine tkN 14 hHeld ?_; try go_frame
          refine tkN 15 hHeld ?_; try go_frame
          refine wpAnyH_ready (rs := [11]) (by kernel_rfl) (by simp) ?_
          refine consL rfl (fun K hK => ?_) AllReadyH.nil
          go_simp
          refine hK.out _ _ (HMK.out _ k0) (fun hHeld => ?_)
          clear hK K
          try go_frame
          refine wpAnyH_ready (rs := [16]) (by kernel_rfl) (by simp) ?_
          refine consL rfl (fun K hK => ?_) AllReadyH.nil
          go_simp
          refine hK.out _ _ (HMK.out _ k0) (fun hHeld => ?_)
          clear hK K
          try go_frame
          refine tkN 17 hHeld ?_; try go_frame
          refine tkL 18 hHeld ?_; try go_frame
          refine wpAnyH_done (by kernel_rfl) ?_ _
          clear k0 HMK hHeld
          go_wp2
          go_roundw
          case rel => exact ⟨i + 1, by omega, by go_num, KZ.out, runs_snoc HW.out HN.out⟩
          case measure => simp [intOf]; omega
          | true =>
            by_cases hi0 : i = 0
            · subst hi0
              have HN : Hid (runAt B true q 0 = true) := by show runAt B true q 0 = true; rw [runAt_some HG.out, HRB.out, HWI.out]; rfl
              go_wp2_with fail
              refine wp_region_held_drew (S := (fun w' => b < w'.heap.size)) (by kernel_rfl) (HMK.out _ k0) (fun hHeld => ?_)
              refine tkL 0 hHeld ?_; try go_frame
              refine tkL 1 hHeld ?_; try go_frame
              refine tkL 2 hHeld ?_; try go_frame
              refine tkL 3 hHeld ?_; try go_frame
              refine tkL 4 hHeld ?_; try go_frame
              refine tkL 5 hHeld ?_; try go_frame
              refine tkN 6 hHeld ?_; try go_frame
              refine tkN 7 hHeld ?_; try go_frame
              refine tkN 8 hHeld ?_; try go_frame
              refine tkN 9 hHeld ?_; try go_frame
              refine tkN 10 hHeld ?_; try go_frame
              refine tkN 12 hHeld ?_; try go_frame
              refine tkN 13 hHeld ?_; try go_frame
              refine tkN 14 hHeld ?_; try go_frame
              refine tkN 15 hHeld ?_; try go_frame
              refine wpAnyH_ready (rs := [11]) (by kernel_rfl) (by simp) ?_
              refine consL rfl (fun K hK => ?_) AllReadyH.nil
              go_simp
              refine hK.out _ _ (HMK.out _ k0) (fun hHeld => ?_)
              clear hK K
              try go_frame
              refine wpAnyH_ready (rs := [16]) (by kernel_rfl) (by simp) ?_
              refine consL rfl (fun K hK => ?_) AllReadyH.nil
              go_simp
              refine hK.out _ _ (HMK.out _ k0) (fun hHeld => ?_)
              clear hK K
              try go_frame
              refine tkN 17 hHeld ?_; try go_frame
              refine tkL 18 hHeld ?_; try go_frame
              refine wpAnyH_done (by kernel_rfl) ?_ _
              clear k0 HMK hHeld
              go_wp2
              go_roundw
              case rel => exact ⟨0 + 1, by omega, by go_num, KZ.out, runs_snoc HW.out HN.out⟩
              case measure => simp [intOf]; omega
            · have hip : (0 : Int) < (i : Int) := by omega
              have hipN : 0 < i := by omega
              have hipD : decide (0 < i) = true := decide_eq_true hipN
              have hj1 : (0 : Int) ≤ (i : Int) - 1 := by omega
              have hj2 : (i : Int) - 1 < (n : Int) := by omega
              have hj3 : (1 : Int) ≤ (i : Int) := by omega
              have hjt : ((i : Int) - 1).toNat = i - 1 := by omega
              have wj : IntKind.i64.wrap ((i : Int) - 1) = (i : Int) - 1 := by rw [IntWalk.i64_left]; unfold wrap64; omega
              obtain ⟨Lp, mp, sp, np, cp, hp, _, p0, p1, hEp⟩ := H.out.run K1.out (i - 1) (by omega)
              have hRp : runB Lp mp = true := by
                have h1 := HW.out (i - 1) (by omega)
                rw [runAt_some hp] at h1
                simp only [Bool.and_eq_true] at h1
                exact h1.1
              have l1 := (runB_parts HRB.out).1
              have l2 := (runB_parts hRp).1
              obtain ⟨el, hel, hlow⟩ := lowK_at l1
              obtain ⟨eh, heh, hhigh⟩ := highK_at l2
              have hns := E1.out.length
              have hnp := hEp.1.length
              obtain ⟨bs, os, rfl, _⟩ := E1.out.form (by omega)
              obtain ⟨bp, op, rfl, _⟩ := hEp.1.form (by omega)
              rw [hnp] at heh
              have CH : Hid (∀ w', Below wr2.heap.size wr2 w' → Calls Tryz.prog 117 #[.agg #[.slice (some ⟨bp, op, none⟩) np cp, .int .i64 mp]] w' fun r w'' => r = .returned (.string eh.1) ∧ Below w'.heap.size w' w'') := fun w' k => specHigh mp bp op np cp Lp w' (hEp.1.keep k) eh heh (by omega)
              have CLO : Hid (∀ w', Below wr2.heap.size wr2 w' → Calls Tryz.prog 118 #[.agg #[.slice (some ⟨bs, os, none⟩) ns cs, .int .i64 m]] w' fun r w'' => r = .returned (.string el.1) ∧ Below w'.heap.size w' w'') := fun w' k => specLow m bs os ns cs L w' (E1.out.keep k) el hel
              have HAT : Hid (runAt B true q i = Op.bytesLess eh.1.toList el.1.toList) := by
                show runAt B true q i = _
                rw [runAt_prev HG.out hipN hp, HRB.out, HWI.out]
                simp only [Bool.true_and, Bool.not_true, Bool.false_or]
                unfold aheadB
                rw [hlow, hhigh]
              have HM1 : Hid (∀ w', Below wr2.heap.size wr2 w' → (w'.cell? ⟨b, off + i * 2, none⟩ = some (.slice (some ⟨bs, os, none⟩) ns cs) ∧ w'.cell? ⟨b, off + i * 2 + 1, none⟩ = some (.int .i64 m) ∧ w'.cell? ⟨b, off + (i - 1) * 2, none⟩ = some (.slice (some ⟨bp, op, none⟩) np cp) ∧ w'.cell? ⟨b, off + (i - 1) * 2 + 1, none⟩ = some (.int .i64 mp) ∧ b < w'.heap.size)) := fun w' kk => ⟨cell_later kk g0, cell_later kk g1, cell_later kk p0, cell_later kk p1, Nat.lt_of_lt_of_le zb kk.size⟩
              clear HMK hp hEp hRp l1 l2 hel heh hlow hhigh hns hnp g0 g1 p0 p1 zb HE
              obtain ⟨sh, hsh⟩ : ∃ sh, sh = eh.1 := ⟨_, rfl⟩
              obtain ⟨sl, hsl⟩ : ∃ sl, sl = el.1 := ⟨_, rfl⟩
              rw [← hsh] at CH HAT
              rw [← hsl] at CLO HAT
              clear hsh hsl
              cases hcmp : Op.bytesLess sh.toList sl.toList with
              | true =>
                have HN : Hid (runAt B true q i = true) := by show runAt B true q i = true; rw [HAT.out]; exact hcmp
                go_wp2_with fail
                refine wp_region_held_drew (S := (fun w' => w'.cell? ⟨b, off + i * 2, none⟩ = some (.slice (some ⟨bs, os, none⟩) ns cs) ∧ w'.cell? ⟨b, off + i * 2 + 1, none⟩ = some (.int .i64 m) ∧ w'.cell? ⟨b, off + (i - 1) * 2, none⟩ = some (.slice (some ⟨bp, op, none⟩) np cp) ∧ w'.cell? ⟨b, off + (i - 1) * 2 + 1, none⟩ = some (.int .i64 mp) ∧ b < w'.heap.size)) (by kernel_rfl) (HM1.out _ k0) (fun hHeld => ?_)
                refine tkL 0 hHeld ?_; try go_frame
                refine tkL 1 hHeld ?_; try go_frame
                refine tkL 2 hHeld ?_; try go_frame
                refine tkL 3 hHeld ?_; try go_frame
                refine tkL 4 hHeld ?_; try go_frame
                refine tkL 5 hHeld ?_; try go_frame
                refine tkL 6 hHeld ?_; try go_frame
                refine tkL 7 hHeld ?_; try go_frame
                refine tkL 8 hHeld ?_; try go_frame
                refine tkL 9 hHeld ?_; try go_frame
                refine tkL 10 hHeld ?_; try go_frame
                refine tkL 12 hHeld ?_; try go_frame
                refine tkL 13 hHeld ?_; try go_frame
                refine tkL 14 hHeld ?_; try go_frame
                refine tkL 15 hHeld ?_; try go_frame
                refine wpAnyH_ready (rs := [11]) (by kernel_rfl) (by simp) ?_
                refine consL rfl (fun K hK => ?_) AllReadyH.nil
                go_simp
                refine (CH.out _ k0).mono ?_
                rintro e wk1 ⟨rfl, bk1⟩
                have k1 : Below wr2.heap.size wr2 wk1 := k0.trans (bk1.mono k0.size)
                go_wp2_with fail
                refine hK.out _ _ (HM1.out _ k1) (fun hHeld => ?_)
                clear hK K
                try go_frame
                refine wpAnyH_ready (rs := [16]) (by kernel_rfl) (by simp) ?_
                refine consL rfl (fun K hK => ?_) AllReadyH.nil
                go_simp
                refine (CLO.out _ k1).mono ?_
                rintro e wk2 ⟨rfl, bk2⟩
                have k2 : Below wr2.heap.size wr2 wk2 := k1.trans (bk2.mono k1.size)
                go_wp2_with fail
                refine hK.out _ _ (HM1.out _ k2) (fun hHeld => ?_)
                clear hK K
                try go_frame
                refine tkL 17 hHeld ?_; try go_frame
                refine tkL 18 hHeld ?_; try go_frame
                refine wpAnyH_done (by kernel_rfl) ?_ _
                have KY : Hid (Below w.heap.size w wk2) := K1.out.trans (k2.mono K1.out.size)
                clear k0 k1 k2 bk1 bk2 HM1 hHeld
                go_wp2
                go_roundw
                case rel => exact ⟨i + 1, by omega, by go_num, KY.out, runs_snoc HW.out HN.out⟩
                case measure => simp [intOf]; omega
              | false =>
                have HN : Hid (runAt B true q i = false) := by show runAt B true q i = false; rw [HAT.out]; exact hcmp
                go_wp2_with fail
                refine wp_region_held_drew (S := (fun w' => w'.cell? ⟨b, off + i * 2, none⟩ = some (.slice (some ⟨bs, os, none⟩) ns cs) ∧ w'.cell? ⟨b, off + i * 2 + 1, none⟩ = some (.int .i64 m) ∧ w'.cell? ⟨b, off + (i - 1) * 2, none⟩ = some (.slice (some ⟨bp, op, none⟩) np cp) ∧ w'.cell? ⟨b, off + (i - 1) * 2 + 1, none⟩ = some (.int .i64 mp) ∧ b < w'.heap.size)) (by kernel_rfl) (HM1.out _ k0) (fun hHeld => ?_)
                refine tkL 0 hHeld ?_; try go_frame
                refine tkL 1 hHeld ?_; try go_frame
                refine tkL 2 hHeld ?_; try go_frame
                refine tkL 3 hHeld ?_; try go_frame
                refine tkL 4 hHeld ?_; try go_frame
                refine tkL 5 hHeld ?_; try go_frame
                refine tkL 6 hHeld ?_; try go_frame
                refine tkL 7 hHeld ?_; try go_frame
                refine tkL 8 hHeld ?_; try go_frame
                refine tkL 9 hHeld ?_; try go_frame
                refine tkL 10 hHeld ?_; try go_frame
                refine tkL 12 hHeld ?_; try go_frame
                refine tkL 13 hHeld ?_; try go_frame
                refine tkL 14 hHeld ?_; try go_frame
                refine tkL 15 hHeld ?_; try go_frame
                refine wpAnyH_ready (rs := [11]) (by kernel_rfl) (by simp) ?_
                refine consL rfl (fun K hK => ?_) AllReadyH.nil
                go_simp
                refine (CH.out _ k0).mono ?_
                rintro e wk1 ⟨rfl, bk1⟩
                have k1 : Below wr2.heap.size wr2 wk1 := k0.trans (bk1.mono k0.size)
                go_wp2_with fail
                refine hK.out _ _ (HM1.out _ k1) (fun hHeld => ?_)
                clear hK K
                try go_frame
                refine wpAnyH_ready (rs := [16]) (by kernel_rfl) (by simp) ?_
                refine consL rfl (fun K hK => ?_) AllReadyH.nil
                go_simp
                refine (CLO.out _ k1).mono ?_
                rintro e wk2 ⟨rfl, bk2⟩
                have k2 : Below wr2.heap.size wr2 wk2 := k1.trans (bk2.mono k1.size)
                go_wp2_with fail
                refine hK.out _ _ (HM1.out _ k2) (fun hHeld => ?_)
                clear hK K
                try go_frame
                refine tkL 17 hHeld ?_; try go_frame
                refine tkL 18 hHeld ?_; try go_frame
                refine wpAnyH_done (by kernel_rfl) ?_ _
                have KY : Hid (Below w.heap.size w wk2) := K1.out.trans (k2.mono K1.out.size)
                clear k0 k1 k2 bk1 bk2 HM1 hHeld
                go_wp2
                go_ret
                exact ⟨ret_bool (runs_no HKL.out HN.out).symm, KY.out⟩
    · have hinI : ¬ (i : Int) < (n : Int) := by omega
      have HC : Hid (runsB B most ap q = true) := by
        have hw := HW.out
        have hii : i = B.length := by rw [HLN.out]; omega
        rw [hii] at hw
        exact runs_all hw (by rw [HLN.out]; omega)
      go_wp2
      go_ret
      exact ⟨ret_bool HC.out.symm, HB.out⟩
end Go.Proofs.YtlmgojlffgkciaaGreat

namespace Go.Proofs.YtlmgojlffgkciaaGreat
open Go.RowKit
structure PartsAt (w : World) (a : Option Addr) (n c : Nat) (P : List (List EntD)) : Prop where
  length : P.length = n
  room : n ≤ c
  big : c ≤ maxLen
  nil : a = none → n = 0
  lies : ∀ x, a = some x → 0 < n → x.block < w.heap.size ∧ x.spot = none
  lists : ∀ x, a = some x → ∀ i (h : i < P.length), ∃ s m d, w.cell? ⟨x.block, x.off + i, none⟩ = some (.slice s m d) ∧ EntsAt w s m d P[i]
theorem PartsAt.keep {w w' : World} {a : Option Addr} {n c : Nat} {P : List (List EntD)} (h : PartsAt w a n c P) (hb : Below w.heap.size w w') : PartsAt w' a n c P where
  length := h.length
  room := h.room
  big := h.big
  nil := h.nil
  lies := fun x e hp => ⟨Nat.lt_of_lt_of_le (h.lies x e hp).1 hb.size, (h.lies x e hp).2⟩
  lists := fun x e i hi => by
    obtain ⟨s, m, d, c0, hL⟩ := h.lists x e i hi
    exact ⟨s, m, d, cell_later hb c0, hL.keep hb⟩
theorem PartsAt.form {w : World} {a : Option Addr} {n c : Nat} {P : List (List EntD)} (h : PartsAt w a n c P) (hl : 1 ≤ n) : ∃ b off, a = some ⟨b, off, none⟩ ∧ b < w.heap.size := by
  cases a with
  | none => have := h.nil rfl; omega
  | some x =>
    obtain ⟨b, off, spot⟩ := x
    obtain ⟨h1, h2⟩ := h.lies _ rfl (by omega)
    simp only at h1 h2
    subst h2
    exact ⟨b, off, rfl, h1⟩
theorem PartsAt.list {w wr : World} {b off n c : Nat} {P : List (List EntD)} (h : PartsAt w (some ⟨b, off, none⟩) n c P) (hb : Below w.heap.size w wr) (k : Nat) (hk : k < n) :
    ∃ A s m d, P[k]? = some A ∧ wr.cell? ⟨b, off + k, none⟩ = some (.slice s m d) ∧ EntsAt wr s m d A := by
  have hk' : k < P.length := by rw [h.length]; exact hk
  obtain ⟨s, m, d, c0, hL⟩ := (h.keep hb).lists _ rfl k hk'
  exact ⟨P[k], s, m, d, List.getElem?_eq_getElem hk', c0, hL⟩
theorem Tryz.infoEntS : (Tryz.prog.info? 28).map (fun i => (i.zero, i.size, i.bytes)) = some (some (.slice none 0 0), 1, 24) := by kernel_rfl
structure PartsOwn (w : World) (base g n c : Nat) (P : List (List EntD)) (vs : List Value) (y : Option Nat) : Prop where
  owns : w.ownsRow base 28 1 (.slice (some ⟨g, 0, none⟩) n c) n vs
  len : P.length = n
  ne : some g ≠ y
  lists : ∀ (i : Nat) A, P[i]? = some A → ∃ s m d, vs[i]? = some (.slice s m d) ∧ EntsAt w s m d A ∧ ∀ x, s = some x → 0 < m → x.block ≠ g ∧ some x.block ≠ y
theorem EntsAt.grownB {w w' : World} {s : Option Addr} {m d : Nat} {A : List EntD} {row : Option Nat} (h : EntsAt w s m d A) (hg : w.grownBy w' row) (hne : ∀ x, s = some x → 0 < m → some x.block ≠ row) : EntsAt w' s m d A :=
  h.moved hg.size (fun x e hp o => World.cell?_of_block (a := ⟨x.block, o, none⟩) (hg.block x.block (h.lies x e hp).1 (hne x e hp)))
theorem PartsOwn.partsAt {w : World} {base g n c : Nat} {P : List (List EntD)} {vs : List Value} {y : Option Nat} (h : PartsOwn w base g n c P vs y) : PartsAt w (some ⟨g, 0, none⟩) n c P := by
  have hlt := (h.owns.lt g rfl).2
  have hrc : n ≤ c ∧ c ≤ maxLen := by
    rcases h.owns.2 with ⟨h', _⟩ | ⟨g', cap', cur, h', _, _, hnc, hcm, _, _⟩
    · simp at h'
    · simp only [Value.slice.injEq, Option.some.injEq, Addr.mk.injEq, and_true, true_and] at h'
      obtain ⟨rfl, rfl⟩ := h'
      exact ⟨hnc, hcm⟩
  refine ⟨h.len, hrc.1, hrc.2, (fun e => by cases e), ?_, ?_⟩
  · rintro x e _
    cases e
    exact ⟨hlt, rfl⟩
  · rintro x e i hi
    cases e
    obtain ⟨s, m, d, hv, hE, _⟩ := h.lists i _ (List.getElem?_eq_getElem hi)
    refine ⟨s, m, d, ?_, hE⟩
    have := h.owns.cellAt i (by rw [← h.len]; omega)
    rw [hv] at this
    simpa using this
theorem PartsOwn.grown {w w' : World} {base g n c : Nat} {P : List (List EntD)} {vs : List Value} {y row : Option Nat} (h : PartsOwn w base g n c P vs y) (hg : w.grownBy w' row) (hr : ∀ k, row = some k → y = some k) : PartsOwn w' base g n c P vs y where
  owns := h.owns.kept hg (.inr (fun e => h.ne (by rw [hr g e.symm])))
  len := h.len
  ne := h.ne
  lists := fun i A hA => by
    obtain ⟨s, m, d, hv, hE, hx⟩ := h.lists i A hA
    exact ⟨s, m, d, hv, hE.grownB hg (fun x e hp e' => (hx x e hp).2 (hr _ e'.symm).symm), hx⟩
theorem grown_none {w w' : World} (hb : Below w.heap.size w w') : w.grownBy w' none := ⟨hb.os, hb.tape, hb.output, hb.size, fun k hk _ => hb.block k hk⟩
theorem PartsOwn.below {w w' : World} {base g n c : Nat} {P : List (List EntD)} {vs : List Value} {y : Option Nat} (h : PartsOwn w base g n c P vs y) (hb : Below w.heap.size w w') : PartsOwn w' base g n c P vs y := h.grown (grown_none hb) (fun k e => by cases e)
theorem PartsOwn.turn {w : World} {base g n c : Nat} {P : List (List EntD)} {vs : List Value} {y : Option Nat} (h : PartsOwn w base g n c P vs y) {y' : Option Nat} (hy : y' = y ∨ y' = none ∨ y' = some w.heap.size) : PartsOwn w base g n c P vs y' where
  owns := h.owns
  len := h.len
  ne := by
    rcases hy with rfl | rfl | rfl
    · exact h.ne
    · exact fun e => by cases e
    · intro e; have h1 := (h.owns.lt g rfl).2; have h2 := Option.some.inj e; omega
  lists := fun i A hA => by
    obtain ⟨s, m, d, hv, hE, hx⟩ := h.lists i A hA
    refine ⟨s, m, d, hv, hE, fun x e hp => ⟨(hx x e hp).1, ?_⟩⟩
    rcases hy with rfl | rfl | rfl
    · exact (hx x e hp).2
    · exact fun e => by cases e
    · intro e'; have h1 := (hE.lies x e hp).1; have h2 := Option.some.inj e'; omega
theorem PartsOwn.push {w w' : World} {base g n c g2 c2 : Nat} {P : List (List EntD)} {vs : List Value} {y : Option Nat} (h : PartsOwn w base g n c P vs y) {s : Option Addr} {m d : Nat} {A : List EntD}
    (ho : w'.ownsRow base 28 1 (.slice (some ⟨g2, 0, none⟩) (n + 1) c2) (n + 1) (vs ++ [.slice s m d])) (hg : w.grownBy w' (some g)) (h2 : g2 = g ∨ g2 = w.heap.size)
    (hE : EntsAt w s m d A) (hx : ∀ x, s = some x → 0 < m → x.block ≠ g) : PartsOwn w' base g2 (n + 1) c2 (P ++ [A]) (vs ++ [.slice s m d]) none where
  owns := ho
  len := by rw [List.length_append, h.len]; rfl
  ne := fun e => by cases e
  lists := fun i B hB => by
    have hvl : vs.length = n := by have := h.owns.1; omega
    by_cases hi : i < n
    · rw [List.getElem?_append_left (by rw [h.len]; exact hi)] at hB
      obtain ⟨s', m', d', hv, hE', hx'⟩ := h.lists i B hB
      refine ⟨s', m', d', by rw [List.getElem?_append_left (by rw [hvl]; exact hi)]; exact hv, hE'.grownB hg (fun x e hp e' => (hx' x e hp).1 (by cases e'; rfl)), fun x e hp => ⟨?_, fun e => by cases e⟩⟩
      rcases h2 with rfl | rfl
      · exact (hx' x e hp).1
      · have := (hE'.lies x e hp).1; omega
    · rw [List.getElem?_append_right (by rw [h.len]; omega), h.len] at hB
      have hi0 : i - n = 0 := by
        by_cases e : i - n = 0
        · exact e
        · rw [List.getElem?_eq_none (by simp; omega)] at hB; cases hB
      rw [hi0] at hB
      simp at hB
      subst hB
      refine ⟨s, m, d, by rw [List.getElem?_append_right (by rw [hvl]; omega), hvl, hi0]; rfl, hE.grownB hg (fun x e hp e' => hx x e hp (by cases e'; rfl)), fun x e hp => ⟨?_, fun e => by cases e⟩⟩
      rcases h2 with rfl | rfl
      · exact hx x e hp
      · have := (hE.lies x e hp).1; omega
end Go.Proofs.YtlmgojlffgkciaaGreat

namespace Go.Proofs.YtlmgojlffgkciaaGreat
open Go.RowKit
set_option maxRecDepth 100000
set_option maxHeartbeats 8000000
def above2 (P : List (List EntD)) (i k : Nat) : Bool := match P[i]? with | none => true | some A => match P[k]? with | none => true | some B => aboveB A B
theorem above2_at {P : List (List EntD)} {i k : Nat} {A B : List EntD} (h : P[i]? = some A) (h' : P[k]? = some B) : above2 P i k = aboveB A B := by
  unfold above2
  simp only [h, h']
def AgedTo (P : List (List EntD)) (i : Nat) : Prop := ∀ j k, j < i → j < k → k < P.length → above2 P j k = true
def AgedIn (P : List (List EntD)) (i k : Nat) : Prop := ∀ j, i < j → j < k → above2 P i j = true
def agedB (P : List (List EntD)) : Bool := (List.range P.length).all fun i => (List.range P.length).all fun k => !decide (i < k) || above2 P i k
theorem aged_no {P : List (List EntD)} {i k : Nat} (hi : i < k) (hk : k < P.length) (h : above2 P i k = false) : agedB P = false := by
  rw [Bool.eq_false_iff]
  intro h1
  unfold agedB at h1
  rw [List.all_eq_true] at h1
  have h2 := h1 i (List.mem_range.2 (by omega))
  rw [List.all_eq_true] at h2
  have h3 := h2 k (List.mem_range.2 hk)
  rw [h, decide_eq_true hi] at h3
  cases h3
theorem aged_all {P : List (List EntD)} (h : AgedTo P P.length) : agedB P = true := by
  unfold agedB
  rw [List.all_eq_true]
  intro i hi
  rw [List.all_eq_true]
  intro k hk
  by_cases e : i < k
  · rw [h i k (List.mem_range.1 hi) e (List.mem_range.1 hk)]; simp
  · rw [decide_eq_false e]; rfl
theorem aged_in {P : List (List EntD)} {i k : Nat} (h : AgedIn P i k) (hk : above2 P i k = true) : AgedIn P i (k + 1) := by
  intro j h1 h2
  by_cases e : j = k
  · subst e; exact hk
  · exact h j h1 (by omega)
theorem aged_to {P : List (List EntD)} {i : Nat} (h : AgedTo P i) (hi : AgedIn P i P.length) : AgedTo P (i + 1) := by
  intro j k h1 h2 h3
  by_cases e : j = i
  · subst e; exact hi k h2 h3
  · exact h j k (by omega) h2 h3
theorem specAged (sq : Int) (am av ak : Option Addr) (nm cm nv cv nk ck : Nat) (P : List (List EntD)) (w : World)
    (hp : ∀ w1, Below w.heap.size w w1 → Calls Tryz.prog 68 #[.agg #[.int .i64 sq, .slice am nm cm, .slice av nv cv, .slice ak nk ck]] w1 fun e w' => ∃ a n c, e = .returned (.slice a n c) ∧ PartsAt w' a n c P ∧ Below w1.heap.size w1 w') :
    Calls Tryz.prog 76 #[.agg #[.int .i64 sq, .slice am nm cm, .slice av nv cv, .slice ak nk ck]] w fun e w' => e = .returned (.bool (agedB P)) ∧ Below w.heap.size w w' := by
  go_enter Tryz.func76, Tryz.ntmps76
  go_wp2_with fail
  refine (hp _ ((Below.refl _ _).alloc (Nat.le_refl _) _)).mono ?_
  rintro e w2 ⟨a, n, c, rfl, hP, hb2⟩
  have K1 : ∀ o, Below w.heap.size w (w.alloc o) := fun o => (Below.refl _ _).alloc (Nat.le_refl _) o
  have K2 : Hid (Below w.heap.size w w2) := (K1 _).trans (hb2.mono (K1 _).size)
  clear hb2 hp K1
  have HLN : Hid (P.length = n) := hP.length
  have hr := hP.room
  have hbg := hP.big
  unfold maxLen at hbg
  have H : Hid (PartsAt w2 a n c P) := hP
  clear hP
  go_wp2
  go_loopw [4] (fun iv wr => ∃ i : Nat, i ≤ n ∧ iv = .int .i64 i ∧ Below w2.heap.size w2 wr ∧ AgedTo P i) (fun iv _ => n - (intOf iv).toNat)
  case atStart => exact ⟨0, Nat.zero_le _, rfl, Below.refl _ _, fun j k hj => absurd hj (Nat.not_lt_zero _)⟩
  case round =>
    obtain ⟨i, hi, rfl, hb, hw⟩ := hrel
    have HW : Hid (AgedTo P i) := hw
    have HB : Hid (Below w2.heap.size w2 wr) := hb
    clear hw hb
    by_cases hin : i < n
    · have hinI : (i : Int) < (n : Int) := by omega
      obtain ⟨b, off, rfl, hbb⟩ := H.out.form (by omega)
      go_wp2
      go_loopw [5] (fun kv wq => ∃ k : Nat, i < k ∧ k ≤ n ∧ kv = .int .i64 k ∧ Below w2.heap.size w2 wq ∧ AgedIn P i k) (fun kv _ => n - (intOf kv).toNat)
      case atStart => exact ⟨i + 1, by omega, by omega, by go_num, HB.out, fun j h1 h2 => absurd h2 (by omega)⟩
      case round =>
        obtain ⟨k, hik, hk, rfl, hbk, hwk⟩ := hrel
        have HWK : Hid (AgedIn P i k) := hwk
        have HBK : Hid (Below w2.heap.size w2 wr) := hbk
        clear hwk
        by_cases hkn : k < n
        · have hknI : (k : Int) < (n : Int) := by omega
          obtain ⟨A, s1, n1, c1, hA, g1, hE1⟩ := H.out.list hbk i hin
          obtain ⟨B, s2, n2, c2, hB, g2, hE2⟩ := H.out.list hbk k hkn
          have HAT : Hid (above2 P i k = aboveB A B) := above2_at hA hB
          have HKL : Hid (k < P.length) := by show k < P.length; rw [HLN.out]; exact hkn
          have zb := Nat.lt_of_lt_of_le hbb hbk.size
          have CA : Hid (∀ w', Below wr.heap.size wr w' → Calls Tryz.prog 119 #[.slice s1 n1 c1, .slice s2 n2 c2] w' fun e w'' => e = .returned (.bool (aboveB A B)) ∧ Below w'.heap.size w' w'') := fun w' kk => specAbove s1 s2 n1 c1 n2 c2 A B w' (hE1.keep kk) (hE2.keep kk)
          have HMK : Hid (∀ w', Below wr.heap.size wr w' → (w'.cell? ⟨b, off + i, none⟩ = some (.slice s1 n1 c1) ∧ w'.cell? ⟨b, off + k, none⟩ = some (.slice s2 n2 c2) ∧ b < w'.heap.size)) := fun w' kk => ⟨cell_later kk g1, cell_later kk g2, Nat.lt_of_lt_of_le zb kk.size⟩
          have k0 : Below wr.heap.size wr wr.drew := (Below.refl _ wr).drew
          clear hA hB g1 g2 hE1 hE2 zb hbk
          obtain ⟨O, hO⟩ : ∃ O, O = aboveB A B := ⟨_, rfl⟩
          rw [← hO] at CA HAT
          clear hO
          cases O with
          | true =>
            go_wp2_with fail
            refine wp_region_held_drew (S := (fun w' => w'.cell? ⟨b, off + i, none⟩ = some (.slice s1 n1 c1) ∧ w'.cell? ⟨b, off + k, none⟩ = some (.slice s2 n2 c2) ∧ b < w'.heap.size)) (by kernel_rfl) (HMK.out _ k0) (fun hHeld => ?_)
            refine tkL 0 hHeld ?_; try go_frame
            refine tkL 1 hHeld ?_; try go_frame
            refine tkL 2 hHeld ?_; try go_frame
            refine tkL 3 hHeld ?_; try go_frame
            refine tkL 4 hHeld ?_; try go_frame
            refine tkL 5 hHeld ?_; try go_frame
            refine tkL 6 hHeld ?_; try go_frame
            refine tkL 7 hHeld ?_; try go_frame
            refine wpAnyH_ready (rs := [8]) (by kernel_rfl) (by simp) ?_
            refine consL rfl (fun K hK => ?_) AllReadyH.nil
            go_simp
            refine (CA.out _ k0).mono ?_
            rintro e wk1 ⟨rfl, bk1⟩
            have k1 : Below wr.heap.size wr wk1 := k0.trans (bk1.mono k0.size)
            go_wp2_with fail
            refine hK.out _ _ (HMK.out _ k1) (fun hHeld => ?_)
            clear hK K
            try go_frame
            refine tkL 9 hHeld ?_; try go_frame
            refine wpAnyH_done (by kernel_rfl) ?_ _
            have KY : Hid (Below w2.heap.size w2 wk1) := HBK.out.trans (k1.mono HBK.out.size)
            clear k0 k1 bk1 HMK CA hHeld
            go_wp2
            go_roundw
            case rel => exact ⟨k + 1, by omega, by omega, by go_num, KY.out, aged_in HWK.out HAT.out⟩
            case measure => simp [intOf]; omega
          | false =>
            go_wp2_with fail
            refine wp_region_held_drew (S := (fun w' => w'.cell? ⟨b, off + i, none⟩ = some (.slice s1 n1 c1) ∧ w'.cell? ⟨b, off + k, none⟩ = some (.slice s2 n2 c2) ∧ b < w'.heap.size)) (by kernel_rfl) (HMK.out _ k0) (fun hHeld => ?_)
            refine tkL 0 hHeld ?_; try go_frame
            refine tkL 1 hHeld ?_; try go_frame
            refine tkL 2 hHeld ?_; try go_frame
            refine tkL 3 hHeld ?_; try go_frame
            refine tkL 4 hHeld ?_; try go_frame
            refine tkL 5 hHeld ?_; try go_frame
            refine tkL 6 hHeld ?_; try go_frame
            refine tkL 7 hHeld ?_; try go_frame
            refine wpAnyH_ready (rs := [8]) (by kernel_rfl) (by simp) ?_
            refine consL rfl (fun K hK => ?_) AllReadyH.nil
            go_simp
            refine (CA.out _ k0).mono ?_
            rintro e wk1 ⟨rfl, bk1⟩
            have k1 : Below wr.heap.size wr wk1 := k0.trans (bk1.mono k0.size)
            go_wp2_with fail
            refine hK.out _ _ (HMK.out _ k1) (fun hHeld => ?_)
            clear hK K
            try go_frame
            refine tkL 9 hHeld ?_; try go_frame
            refine wpAnyH_done (by kernel_rfl) ?_ _
            have KY : Hid (Below w2.heap.size w2 wk1) := HBK.out.trans (k1.mono HBK.out.size)
            clear k0 k1 bk1 HMK CA hHeld
            go_wp2
            go_ret
            exact ⟨ret_bool (aged_no hik HKL.out HAT.out).symm, K2.out.trans (KY.out.mono K2.out.size)⟩
        · have hknI : ¬ (k : Int) < (n : Int) := by omega
          have HN : Hid (AgedTo P (i + 1)) := by
            have h1 := HWK.out
            have h2 : k = P.length := by rw [HLN.out]; omega
            rw [h2] at h1
            exact aged_to HW.out h1
          go_wp2
          go_roundw
          case rel => exact ⟨i + 1, by omega, by go_num, HBK.out, HN.out⟩
          case measure => simp [intOf]; omega
    · have hinI : ¬ (i : Int) < (n : Int) := by omega
      have HC : Hid (agedB P = true) := by
        have hw := HW.out
        have hii : i = P.length := by rw [HLN.out]; omega
        rw [hii] at hw
        exact aged_all hw
      go_wp2
      go_ret
      exact ⟨ret_bool HC.out.symm, K2.out.trans (HB.out.mono K2.out.size)⟩
end Go.Proofs.YtlmgojlffgkciaaGreat
