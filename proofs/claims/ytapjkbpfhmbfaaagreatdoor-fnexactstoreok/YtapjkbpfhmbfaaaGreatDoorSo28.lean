/-
  Pieces of TreeOk of both sides: what is newer, by walks of their Go text.
  Pieces of TreeOk: the document's l5Runs, by a walk of its Go text.
-/
import Derived.Test.YtapjkbpfhmbfaaaGreatDoorSo27
namespace Go.Proofs.YtapjkbpfhmbfaaaGreatDoor
open Go.RowKit
set_option maxRecDepth 100000
set_option maxHeartbeats 3200000
def clash (x y : EntD) : Bool := decide (x.1 = y.1) && decide (x.2.1 ≤ y.2.1)
def aboveB (A B : List EntD) : Bool := A.all (fun x => B.all (fun y => !clash x y))
theorem all_snoc {α : Type} {L : List α} {f : α → Bool} {k : Nat} {e : α} (h : (L.take k).all f = true) (hk : L[k]? = some e) (he : f e = true) : (L.take (k + 1)).all f = true := by
  rw [List.take_add_one, hk]
  simp [List.all_append, h, he]
theorem all_no {α : Type} {L : List α} {f : α → Bool} {k : Nat} {e : α} (hk : L[k]? = some e) (he : f e = false) : L.all f = false := by
  rw [Bool.eq_false_iff]
  intro h
  rw [List.all_eq_true] at h
  rw [h e (List.mem_of_getElem? hk)] at he
  cases he
theorem specAbove (a1 a2 : Option Addr) (n1 c1 n2 c2 : Nat) (A B : List EntD) (w : World) (h1 : EntsAt w a1 n1 c1 A) (h2 : EntsAt w a2 n2 c2 B) :
    Calls Tryz.prog 134 #[.slice a1 n1 c1, .slice a2 n2 c2] w fun e w' => e = .returned (.bool (aboveB A B)) ∧ Below w.heap.size w w' := by
  have HN1 : Hid (A.length = n1) := h1.length
  have HN2 : Hid (B.length = n2) := h2.length
  have hr1 := h1.room
  have hb1 := h1.big
  have hr2 := h2.room
  have hb2 := h2.big
  unfold maxLen at hb1 hb2
  have H1 : Hid (EntsAt w a1 n1 c1 A) := h1
  have H2 : Hid (EntsAt w a2 n2 c2 B) := h2
  clear h1 h2
  go_enter Tryz.func134, Tryz.ntmps134
  go_wp2
  go_loopw [5] (fun iv wr => ∃ i : Nat, i ≤ n1 ∧ iv = .int .i64 i ∧ Below w.heap.size w wr ∧ (A.take i).all (fun x => B.all (fun y => !clash x y)) = true) (fun iv _ => n1 - (intOf iv).toNat)
  case atStart => exact ⟨0, Nat.zero_le _, rfl, Below.refl _ _, by simp⟩
  case round =>
    obtain ⟨i, hi, rfl, hb, hw⟩ := hrel
    have HW : Hid ((A.take i).all (fun x => B.all (fun y => !clash x y)) = true) := hw
    have HB : Hid (Below w.heap.size w wr) := hb
    clear hw
    by_cases hin : i < n1
    · have hinI : (i : Int) < (n1 : Int) := by omega
      obtain ⟨b1, o1, rfl, hx1⟩ := H1.out.form (by omega)
      obtain ⟨s, q, d, t, nn, hg, _, _⟩ := H1.out.ent hb hx1 i hin
      have HG : Hid (A[i]? = some (s, q, d, t, nn)) := hg
      clear hg hb
      go_wp2
      go_loopw [6] (fun kv wq => ∃ k : Nat, k ≤ n2 ∧ kv = .int .i64 k ∧ Below w.heap.size w wq ∧ (B.take k).all (fun y => !clash (s, q, d, t, nn) y) = true) (fun kv _ => n2 - (intOf kv).toNat)
      case atStart => exact ⟨0, Nat.zero_le _, rfl, HB.out, by simp⟩
      case round =>
        obtain ⟨k, hk, rfl, hbk, hwk⟩ := hrel
        have HWK : Hid ((B.take k).all (fun y => !clash (s, q, d, t, nn) y) = true) := hwk
        have HBK : Hid (Below w.heap.size w wr) := hbk
        clear hwk
        by_cases hkn : k < n2
        · have hknI : (k : Int) < (n2 : Int) := by omega
          obtain ⟨b2, o2, rfl, hx2⟩ := H2.out.form (by omega)
          obtain ⟨s1, q1, d1, t1, nn1, hL1, _, g0, g1, _⟩ := H1.out.ent hbk hx1 i hin
          rw [HG.out] at hL1
          cases hL1
          obtain ⟨s', q', d', t', nn', hF, _, e0, e1, _⟩ := H2.out.ent hbk hx2 k hkn
          have HF : Hid (B[k]? = some (s', q', d', t', nn')) := hF
          have z1 := Nat.lt_of_lt_of_le hx1 hbk.size
          have z2 := Nat.lt_of_lt_of_le hx2 hbk.size
          have k0 : Below wr.heap.size wr wr.drew := (Below.refl _ wr).drew
          have HMK : Hid (∀ w', Below wr.heap.size wr w' → (w'.cell? ⟨b1, o1 + i * 5, none⟩ = some (.string s) ∧ w'.cell? ⟨b1, o1 + i * 5 + 1, none⟩ = some (.int .i64 q) ∧ b1 < w'.heap.size ∧ w'.cell? ⟨b2, o2 + k * 5, none⟩ = some (.string s') ∧ w'.cell? ⟨b2, o2 + k * 5 + 1, none⟩ = some (.int .i64 q') ∧ b2 < w'.heap.size)) := fun w' kk => ⟨cell_later kk g0, cell_later kk g1, Nat.lt_of_lt_of_le z1 kk.size, cell_later kk e0, cell_later kk e1, Nat.lt_of_lt_of_le z2 kk.size⟩
          have KZ : Hid (Below w.heap.size w wr.drew) := HBK.out.trans (k0.mono HBK.out.size)
          clear hF hbk
          by_cases hs : s = s'
          · subst hs
            by_cases hq : q ≤ q'
            · have hqd : decide (q ≤ q') = true := decide_eq_true hq
              have HC : Hid ((!clash (s, q, d, t, nn) (s, q', d', t', nn')) = false) := by show (!clash _ _) = false; unfold clash; simp [hq]
              go_wp2_with fail
              refine wp_region_held_drew (S := (fun w' => w'.cell? ⟨b1, o1 + i * 5, none⟩ = some (.string s) ∧ w'.cell? ⟨b1, o1 + i * 5 + 1, none⟩ = some (.int .i64 q) ∧ b1 < w'.heap.size ∧ w'.cell? ⟨b2, o2 + k * 5, none⟩ = some (.string s) ∧ w'.cell? ⟨b2, o2 + k * 5 + 1, none⟩ = some (.int .i64 q') ∧ b2 < w'.heap.size)) (by kernel_rfl) (HMK.out _ k0) (fun hHeld => ?_)
              refine tkL 0 hHeld ?_; try go_frame
              refine tkL 1 hHeld ?_; try go_frame
              refine tkL 2 hHeld ?_; try go_frame
              refine tkL 3 hHeld ?_; try go_frame
              refine tkL 4 hHeld ?_; try go_frame
              refine tkL 5 hHeld ?_; try go_frame
              refine tkL 6 hHeld ?_; try go_frame
              refine tkL 7 hHeld ?_; try go_frame
              refine tkL 8 hHeld ?_; try go_frame
              refine tkL 9 hHeld ?_; try go_frame
              refine tkL 10 hHeld ?_; try go_frame
              refine tkL 11 hHeld ?_; try go_frame
              refine tkL 12 hHeld ?_; try go_frame
              refine tkL 13 hHeld ?_; try go_frame
              refine tkL 14 hHeld ?_; try go_frame
              refine tkL 15 hHeld ?_; try go_frame
              refine tkL 16 hHeld ?_; try go_frame
              refine tkL 17 hHeld ?_; try go_frame
              refine tkL 18 hHeld ?_; try go_frame
              refine tkL 19 hHeld ?_; try go_frame
              refine tkL 20 hHeld ?_; try go_frame
              refine tkL 21 hHeld ?_; try go_frame
              refine tkL 22 hHeld ?_; try go_frame
              refine tkL 23 hHeld ?_; try go_frame
              refine wpAnyH_done (by kernel_rfl) ?_ _
              clear k0 HMK hHeld
              go_wp2
              go_ret
              exact ⟨ret_bool (all_no HG.out (all_no HF.out HC.out)).symm, KZ.out⟩
            · have hqd : decide (q ≤ q') = false := decide_eq_false hq
              have HC : Hid ((!clash (s, q, d, t, nn) (s, q', d', t', nn')) = true) := by show (!clash _ _) = true; unfold clash; simp [hq]
              go_wp2_with fail
              refine wp_region_held_drew (S := (fun w' => w'.cell? ⟨b1, o1 + i * 5, none⟩ = some (.string s) ∧ w'.cell? ⟨b1, o1 + i * 5 + 1, none⟩ = some (.int .i64 q) ∧ b1 < w'.heap.size ∧ w'.cell? ⟨b2, o2 + k * 5, none⟩ = some (.string s) ∧ w'.cell? ⟨b2, o2 + k * 5 + 1, none⟩ = some (.int .i64 q') ∧ b2 < w'.heap.size)) (by kernel_rfl) (HMK.out _ k0) (fun hHeld => ?_)
              refine tkL 0 hHeld ?_; try go_frame
              refine tkL 1 hHeld ?_; try go_frame
              refine tkL 2 hHeld ?_; try go_frame
              refine tkL 3 hHeld ?_; try go_frame
              refine tkL 4 hHeld ?_; try go_frame
              refine tkL 5 hHeld ?_; try go_frame
              refine tkL 6 hHeld ?_; try go_frame
              refine tkL 7 hHeld ?_; try go_frame
              refine tkL 8 hHeld ?_; try go_frame
              refine tkL 9 hHeld ?_; try go_frame
              refine tkL 10 hHeld ?_; try go_frame
              refine tkL 11 hHeld ?_; try go_frame
              refine tkL 12 hHeld ?_; try go_frame
              refine tkL 13 hHeld ?_; try go_frame
              refine tkL 14 hHeld ?_; try go_frame
              refine tkL 15 hHeld ?_; try go_frame
              refine tkL 16 hHeld ?_; try go_frame
              refine tkL 17 hHeld ?_; try go_frame
              refine tkL 18 hHeld ?_; try go_frame
              refine tkL 19 hHeld ?_; try go_frame
              refine tkL 20 hHeld ?_; try go_frame
              refine tkL 21 hHeld ?_; try go_frame
              refine tkL 22 hHeld ?_; try go_frame
              refine tkL 23 hHeld ?_; try go_frame
              refine wpAnyH_done (by kernel_rfl) ?_ _
              clear k0 HMK hHeld
              go_wp2
              go_roundw
              case rel => exact ⟨k + 1, by omega, by go_num, KZ.out, all_snoc HWK.out HF.out HC.out⟩
              case measure => simp [intOf]; omega
          · have hne : ¬ s.toList = s'.toList := by
              rw [ByteArray.toList_eq, ByteArray.toList_eq]
              intro h
              exact hs (ByteArray.ext (Array.toList_inj.1 h))
            have hne' : (s.toList == s'.toList) = false := by simpa using hne
            have HC : Hid ((!clash (s, q, d, t, nn) (s', q', d', t', nn')) = true) := by show (!clash _ _) = true; unfold clash; simp [hs]
            clear hs
            go_wp2_with fail
            refine wp_region_held_drew (S := (fun w' => w'.cell? ⟨b1, o1 + i * 5, none⟩ = some (.string s) ∧ w'.cell? ⟨b1, o1 + i * 5 + 1, none⟩ = some (.int .i64 q) ∧ b1 < w'.heap.size ∧ w'.cell? ⟨b2, o2 + k * 5, none⟩ = some (.string s') ∧ w'.cell? ⟨b2, o2 + k * 5 + 1, none⟩ = some (.int .i64 q') ∧ b2 < w'.heap.size)) (by kernel_rfl) (HMK.out _ k0) (fun hHeld => ?_)
            refine tkL 0 hHeld ?_; try go_frame
            refine tkL 1 hHeld ?_; try go_frame
            refine tkL 2 hHeld ?_; try go_frame
            refine tkL 3 hHeld ?_; try go_frame
            refine tkL 4 hHeld ?_; try go_frame
            refine tkL 5 hHeld ?_; try go_frame
            refine tkL 6 hHeld ?_; try go_frame
            refine tkL 7 hHeld ?_; try go_frame
            refine tkL 8 hHeld ?_; try go_frame
            refine tkL 9 hHeld ?_; try go_frame
            refine tkL 10 hHeld ?_; try go_frame
            refine tkL 11 hHeld ?_; try go_frame
            refine tkN 12 hHeld ?_; try go_frame
            refine tkN 13 hHeld ?_; try go_frame
            refine tkN 14 hHeld ?_; try go_frame
            refine tkN 15 hHeld ?_; try go_frame
            refine tkN 16 hHeld ?_; try go_frame
            refine tkN 17 hHeld ?_; try go_frame
            refine tkN 18 hHeld ?_; try go_frame
            refine tkN 19 hHeld ?_; try go_frame
            refine tkN 20 hHeld ?_; try go_frame
            refine tkN 21 hHeld ?_; try go_frame
            refine tkN 22 hHeld ?_; try go_frame
            refine tkL 23 hHeld ?_; try go_frame
            refine wpAnyH_done (by kernel_rfl) ?_ _
            clear k0 HMK hHeld
            go_wp2
            go_roundw
            case rel => exact ⟨k + 1, by omega, by go_num, KZ.out, all_snoc HWK.out HF.out HC.out⟩
            case measure => simp [intOf]; omega
        · have hknI : ¬ (k : Int) < (n2 : Int) := by omega
          have HC : Hid (B.all (fun y => !clash (s, q, d, t, nn) y) = true) := by
            have := HWK.out
            rw [List.take_of_length_le (by rw [HN2.out]; omega)] at this
            exact this
          go_wp2
          go_roundw
          case rel => exact ⟨i + 1, by omega, by go_num, HBK.out, all_snoc (f := fun x => B.all (fun y => !clash x y)) HW.out HG.out HC.out⟩
          case measure => simp [intOf]; omega
    · have hinI : ¬ (i : Int) < (n1 : Int) := by omega
      have HC : Hid (aboveB A B = true) := by
        have := HW.out
        rw [List.take_of_length_le (by rw [HN1.out]; omega)] at this
        exact this
      go_wp2
      go_ret
      exact ⟨ret_bool HC.out.symm, HB.out⟩
end Go.Proofs.YtapjkbpfhmbfaaaGreatDoor

namespace Go.Proofs.YtapjkbpfhmbfaaaGreatDoor
open Go.RowKit
set_option maxRecDepth 100000
set_option maxHeartbeats 16000000
def lowK (L : List EntD) : ByteArray := match L[0]? with | some e => e.1 | none => ⟨#[]⟩
def highK (L : List EntD) : ByteArray := match L[L.length - 1]? with | some e => e.1 | none => ⟨#[]⟩
def aheadB (A B : List EntD) : Bool := Op.bytesLess (highK A).toList (lowK B).toList
def behindB (B : List RunD) (r : RunD) (i : Nat) : Bool := match i with | 0 => true | j + 1 => match B[j]? with | none => true | some p => aheadB p.1 r.1
def runAt (B : List RunD) (ap : Bool) (q : Int) (i : Nat) : Bool :=
  match B[i]? with
  | none => true
  | some r => runB r.1 r.2 && (withinB r.1 q && (!ap || behindB B r i))
def RunsTo (B : List RunD) (ap : Bool) (q : Int) (k : Nat) : Prop := ∀ j, j < k → runAt B ap q j = true
def runsB (B : List RunD) (most : Int) (ap : Bool) (q : Int) : Bool := decide ((B.length : Int) ≤ most) && (List.range B.length).all (runAt B ap q)
theorem runs_many {B : List RunD} {most : Int} {ap : Bool} {q : Int} (h : most < (B.length : Int)) : runsB B most ap q = false := by
  unfold runsB
  rw [decide_eq_false (by omega)]
  rfl
theorem runs_no {B : List RunD} {most : Int} {ap : Bool} {q : Int} {k : Nat} (hk : k < B.length) (h : runAt B ap q k = false) : runsB B most ap q = false := by
  unfold runsB
  rw [Bool.and_eq_false_iff]
  right
  rw [Bool.eq_false_iff]
  intro h1
  rw [List.all_eq_true] at h1
  rw [h1 k (List.mem_range.2 hk)] at h
  cases h
theorem runs_all {B : List RunD} {most : Int} {ap : Bool} {q : Int} (h : RunsTo B ap q B.length) (hm : (B.length : Int) ≤ most) : runsB B most ap q = true := by
  unfold runsB
  rw [decide_eq_true hm, Bool.true_and, List.all_eq_true]
  intro j hj
  exact h j (List.mem_range.1 hj)
theorem runs_snoc {B : List RunD} {ap : Bool} {q : Int} {k : Nat} (h : RunsTo B ap q k) (hk : runAt B ap q k = true) : RunsTo B ap q (k + 1) := by
  intro j hj
  by_cases e : j = k
  · subst e; exact hk
  · exact h j (by omega)
theorem runAt_some {B : List RunD} {ap : Bool} {q : Int} {i : Nat} {r : RunD} (h : B[i]? = some r) : runAt B ap q i = (runB r.1 r.2 && (withinB r.1 q && (!ap || behindB B r i))) := by
  unfold runAt
  simp only [h]
theorem runAt_prev {B : List RunD} {ap : Bool} {q : Int} {i : Nat} {r p : RunD} (h : B[i]? = some r) (hi : 0 < i) (hp : B[i - 1]? = some p) : runAt B ap q i = (runB r.1 r.2 && (withinB r.1 q && (!ap || aheadB p.1 r.1))) := by
  obtain ⟨j, rfl⟩ : ∃ j, i = j + 1 := ⟨i - 1, by omega⟩
  simp only [Nat.add_sub_cancel] at hp
  rw [runAt_some h]
  unfold behindB
  simp only [hp]
theorem lowK_at {L : List EntD} (h : 1 ≤ L.length) : ∃ e, L[0]? = some e ∧ lowK L = e.1 := by
  have hg : L[0]? = some L[0] := List.getElem?_eq_getElem (by omega)
  exact ⟨_, hg, by unfold lowK; rw [hg]⟩
theorem highK_at {L : List EntD} (h : 1 ≤ L.length) : ∃ e, L[L.length - 1]? = some e ∧ highK L = e.1 := by
  have hg : L[L.length - 1]? = some (L[L.length - 1]'(by omega)) := List.getElem?_eq_getElem (by omega)
  exact ⟨_, hg, by unfold highK; rw [hg]⟩
theorem specRuns (lo : Nat) (a : Option Addr) (n c : Nat) (B : List RunD) (most : Int) (ap : Bool) (q : Int) (w : World) (h : RunsIn lo w a n c B) :
    Calls Tryz.prog 77 #[.slice a n c, .int .i64 most, .bool ap, .int .i64 q] w fun e w' => e = .returned (.bool (runsB B most ap q)) ∧ Below w.heap.size w w' := by
  have HLN : Hid (B.length = n) := h.length
  have hr := h.room
  have hbg := h.big
  unfold maxLen at hbg
  have H : Hid (RunsIn lo w a n c B) := h
  clear h
  by_cases hm : most < (n : Int)
  · go_enter Tryz.func77, Tryz.ntmps77
    go_wp2
    go_ret
    exact ⟨ret_bool (runs_many (by rw [HLN.out]; exact hm)).symm, Below.refl _ _⟩
  go_enter Tryz.func77, Tryz.ntmps77
  go_wp2
  go_loopw [9] (fun iv wr => ∃ i : Nat, i ≤ n ∧ iv = .int .i64 i ∧ Below w.heap.size w wr ∧ RunsTo B ap q i) (fun iv _ => n - (intOf iv).toNat)
  case atStart => exact ⟨0, Nat.zero_le _, rfl, Below.refl _ _, fun j hj => absurd hj (Nat.not_lt_zero _)⟩
  case round =>
    obtain ⟨i, hi, rfl, hb, hw⟩ := hrel
    have HW : Hid (RunsTo B ap q i) := hw
    have HB : Hid (Below w.heap.size w wr) := hb
    clear hw
    by_cases hin : i < n
    · have hinI : (i : Int) < (n : Int) := by omega
      have HKL : Hid (i < B.length) := by show i < B.length; rw [HLN.out]; exact hin
      obtain ⟨b, off, rfl, hbb⟩ := H.out.form (by omega)
      obtain ⟨L, m, s, ns, cs, hg, _, g0, g1, hE⟩ := H.out.run hb i hin
      have HG : Hid (B[i]? = some (L, m)) := hg
      have HE : Hid (EntsIn lo wr s ns cs L) := hE
      have zb := Nat.lt_of_lt_of_le hbb hb.size
      clear hg hb hE
      obtain ⟨O, hO⟩ : ∃ O, O = runB L m := ⟨_, rfl⟩
      go_wp2_with fail
      refine (specRunOk _ _ _ L m wr HE.out.1).mono ?_
      rw [← hO]
      rintro e w1 ⟨rfl, hb1⟩
      have g0 := cell_later hb1 g0
      have g1 := cell_later hb1 g1
      have zb := Nat.lt_of_lt_of_le zb hb1.size
      have K1 : Hid (Below w.heap.size w w1) := HB.out.trans (hb1.mono HB.out.size)
      have E1 : Hid (EntsAt w1 s ns cs L) := HE.out.1.keep hb1
      clear hb1
      cases hOv : O with
      | false =>
        have HN : Hid (runAt B ap q i = false) := by show runAt B ap q i = false; rw [runAt_some HG.out, ← hO, hOv]; rfl
        go_wp2
        go_ret
        exact ⟨ret_bool (runs_no HKL.out HN.out).symm, K1.out⟩
      | true =>
        have HRB : Hid (runB L m = true) := by rw [← hO]; exact hOv
        clear hO hOv
        obtain ⟨T, hT⟩ : ∃ T, T = withinB L q := ⟨_, rfl⟩
        go_wp2_with fail
        refine (specWithin _ _ _ L q w1 E1.out).mono ?_
        rw [← hT]
        rintro e wr2 ⟨rfl, rfl⟩
        cases hTv : T with
        | false =>
          have HN : Hid (runAt B ap q i = false) := by show runAt B ap q i = false; rw [runAt_some HG.out, HRB.out, ← hT, hTv]; rfl
          go_wp2
          go_ret
          exact ⟨ret_bool (runs_no HKL.out HN.out).symm, K1.out⟩
        | true =>
          have HWI : Hid (withinB L q = true) := by rw [← hT]; exact hTv
          clear hT hTv
          have k0 : Below wr2.heap.size wr2 wr2.drew := (Below.refl _ wr2).drew
          have KZ : Hid (Below w.heap.size w wr2.drew) := K1.out.trans (k0.mono K1.out.size)
          have HMK : Hid (∀ w', Below wr2.heap.size wr2 w' → (b < w'.heap.size)) := fun w' kk => Nat.lt_of_lt_of_le zb kk.size
          cases ap with
          | false =>
          have HN : Hid (runAt B false q i = true) := by show runAt B false q i = true; rw [runAt_some HG.out, HRB.out, HWI.out]; rfl
          go_wp2_with fail
          refine wp_region_held_drew (S := (fun w' => b < w'.heap.size)) (by kernel_rfl) (HMK.out _ k0) (fun hHeld => ?_)
          refine tkL 0 hHeld ?_; try go_frame
          refine tkL 1 hHeld ?_; try go_frame
          refine tkN 2 hHeld ?_; try go_frame
          refine tkN 3 hHeld ?_; try go_frame
          refine tkL 4 hHeld ?_; try go_frame
          refine tkL 5 hHeld ?_; try go_frame
          refine tkN 6 hHeld ?_; try go_frame
          refine tkN 7 hHeld ?_; try go_frame
          refine tkN 8 hHeld ?_; try go_frame
          refine tkN 9 hHeld ?_; try go_frame
          refine tkN 10 hHeld ?_; try go_frame
          refine tkN 12 hHeld ?_; try go_frame
          refine tkN 13 hHeld ?_; try go_frame
          refine tkN 14 hHeld ?_; try go_frame
          refine tkN 15 hHeld ?_; try go_frame
          refine wpAnyH_ready (rs := [11]) (by kernel_rfl) (by simp) ?_
          refine consL rfl (fun K hK => ?_) AllReadyH.nil
          go_simp
          refine hK.out _ _ (HMK.out _ k0) (fun hHeld => ?_)
          clear hK K
          try go_frame
          refine wpAnyH_ready (rs := [16]) (by kernel_rfl) (by simp) ?_
          refine consL rfl (fun K hK => ?_) AllReadyH.nil
          go_simp
          refine hK.out _ _ (HMK.out _ k0) (fun hHeld => ?_)
          clear hK K
          try go_frame
          refine tkN 17 hHeld ?_; try go_frame
          refine tkL 18 hHeld ?_; try go_frame
          refine wpAnyH_done (by kernel_rfl) ?_ _
          clear k0 HMK hHeld
          go_wp2
          go_roundw
          case rel => exact ⟨i + 1, by omega, by go_num, KZ.out, runs_snoc HW.out HN.out⟩
          case measure => simp [intOf]; omega
          | true =>
            by_cases hi0 : i = 0
            · subst hi0
              have HN : Hid (runAt B true q 0 = true) := by show runAt B true q 0 = true; rw [runAt_some HG.out, HRB.out, HWI.out]; rfl
              go_wp2_with fail
              refine wp_region_held_drew (S := (fun w' => b < w'.heap.size)) (by kernel_rfl) (HMK.out _ k0) (fun hHeld => ?_)
              refine tkL 0 hHeld ?_; try go_frame
              refine tkL 1 hHeld ?_; try go_frame
              refine tkL 2 hHeld ?_; try go_frame
              refine tkL 3 hHeld ?_; try go_frame
              refine tkL 4 hHeld ?_; try go_frame
              refine tkL 5 hHeld ?_; try go_frame
              refine tkN 6 hHeld ?_; try go_frame
              refine tkN 7 hHeld ?_; try go_frame
              refine tkN 8 hHeld ?_; try go_frame
              refine tkN 9 hHeld ?_; try go_frame
              refine tkN 10 hHeld ?_; try go_frame
              refine tkN 12 hHeld ?_; try go_frame
              refine tkN 13 hHeld ?_; try go_frame
              refine tkN 14 hHeld ?_; try go_frame
              refine tkN 15 hHeld ?_; try go_frame
              refine wpAnyH_ready (rs := [11]) (by kernel_rfl) (by simp) ?_
              refine consL rfl (fun K hK => ?_) AllReadyH.nil
              go_simp
              refine hK.out _ _ (HMK.out _ k0) (fun hHeld => ?_)
              clear hK K
              try go_frame
              refine wpAnyH_ready (rs := [16]) (by kernel_rfl) (by simp) ?_
              refine consL rfl (fun K hK => ?_) AllReadyH.nil
              go_simp
              refine hK.out _ _ (HMK.out _ k0) (fun hHeld => ?_)
              clear hK K
              try go_frame
              refine tkN 17 hHeld ?_; try go_frame
              refine tkL 18 hHeld ?_; try go_frame
              refine wpAnyH_done (by kernel_rfl) ?_ _
              clear k0 HMK hHeld
              go_wp2
              go_roundw
              case rel => exact ⟨0 + 1, by omega, by go_num, KZ.out, runs_snoc HW.out HN.out⟩
              case measure => simp [intOf]; omega
            · have hip : (0 : Int) < (i : Int) := by omega
              have hipN : 0 < i := by omega
              have hipD : decide (0 < i) = true := decide_eq_true hipN
              have hj1 : (0 : Int) ≤ (i : Int) - 1 := by omega
              have hj2 : (i : Int) - 1 < (n : Int) := by omega
              have hj3 : (1 : Int) ≤ (i : Int) := by omega
              have hjt : ((i : Int) - 1).toNat = i - 1 := by omega
              have wj : IntKind.i64.wrap ((i : Int) - 1) = (i : Int) - 1 := by rw [IntWalk.i64_left]; unfold wrap64; omega
              obtain ⟨Lp, mp, sp, np, cp, hp, _, p0, p1, hEp⟩ := H.out.run K1.out (i - 1) (by omega)
              have hRp : runB Lp mp = true := by
                have h1 := HW.out (i - 1) (by omega)
                rw [runAt_some hp] at h1
                simp only [Bool.and_eq_true] at h1
                exact h1.1
              have l1 := (runB_parts HRB.out).1
              have l2 := (runB_parts hRp).1
              obtain ⟨el, hel, hlow⟩ := lowK_at l1
              obtain ⟨eh, heh, hhigh⟩ := highK_at l2
              have hns := E1.out.length
              have hnp := hEp.1.length
              obtain ⟨bs, os, rfl, _⟩ := E1.out.form (by omega)
              obtain ⟨bp, op, rfl, _⟩ := hEp.1.form (by omega)
              rw [hnp] at heh
              have CH : Hid (∀ w', Below wr2.heap.size wr2 w' → Calls Tryz.prog 131 #[.agg #[.slice (some ⟨bp, op, none⟩) np cp, .int .i64 mp]] w' fun r w'' => r = .returned (.string eh.1) ∧ Below w'.heap.size w' w'') := fun w' k => specHigh mp bp op np cp Lp w' (hEp.1.keep k) eh heh (by omega)
              have CLO : Hid (∀ w', Below wr2.heap.size wr2 w' → Calls Tryz.prog 132 #[.agg #[.slice (some ⟨bs, os, none⟩) ns cs, .int .i64 m]] w' fun r w'' => r = .returned (.string el.1) ∧ Below w'.heap.size w' w'') := fun w' k => specLow m bs os ns cs L w' (E1.out.keep k) el hel
              have HAT : Hid (runAt B true q i = Op.bytesLess eh.1.toList el.1.toList) := by
                show runAt B true q i = _
                rw [runAt_prev HG.out hipN hp, HRB.out, HWI.out]
                simp only [Bool.true_and, Bool.not_true, Bool.false_or]
                unfold aheadB
                rw [hlow, hhigh]
              have HM1 : Hid (∀ w', Below wr2.heap.size wr2 w' → (w'.cell? ⟨b, off + i * 2, none⟩ = some (.slice (some ⟨bs, os, none⟩) ns cs) ∧ w'.cell? ⟨b, off + i * 2 + 1, none⟩ = some (.int .i64 m) ∧ w'.cell? ⟨b, off + (i - 1) * 2, none⟩ = some (.slice (some ⟨bp, op, none⟩) np cp) ∧ w'.cell? ⟨b, off + (i - 1) * 2 + 1, none⟩ = some (.int .i64 mp) ∧ b < w'.heap.size)) := fun w' kk => ⟨cell_later kk g0, cell_later kk g1, cell_later kk p0, cell_later kk p1, Nat.lt_of_lt_of_le zb kk.size⟩
              clear HMK hp hEp hRp l1 l2 hel heh hlow hhigh hns hnp g0 g1 p0 p1 zb HE
              obtain ⟨sh, hsh⟩ : ∃ sh, sh = eh.1 := ⟨_, rfl⟩
              obtain ⟨sl, hsl⟩ : ∃ sl, sl = el.1 := ⟨_, rfl⟩
              rw [← hsh] at CH HAT
              rw [← hsl] at CLO HAT
              clear hsh hsl
              cases hcmp : Op.bytesLess sh.toList sl.toList with
              | true =>
                have HN : Hid (runAt B true q i = true) := by show runAt B true q i = true; rw [HAT.out]; exact hcmp
                go_wp2_with fail
                refine wp_region_held_drew (S := (fun w' => w'.cell? ⟨b, off + i * 2, none⟩ = some (.slice (some ⟨bs, os, none⟩) ns cs) ∧ w'.cell? ⟨b, off + i * 2 + 1, none⟩ = some (.int .i64 m) ∧ w'.cell? ⟨b, off + (i - 1) * 2, none⟩ = some (.slice (some ⟨bp, op, none⟩) np cp) ∧ w'.cell? ⟨b, off + (i - 1) * 2 + 1, none⟩ = some (.int .i64 mp) ∧ b < w'.heap.size)) (by kernel_rfl) (HM1.out _ k0) (fun hHeld => ?_)
                refine tkL 0 hHeld ?_; try go_frame
                refine tkL 1 hHeld ?_; try go_frame
                refine tkL 2 hHeld ?_; try go_frame
                refine tkL 3 hHeld ?_; try go_frame
                refine tkL 4 hHeld ?_; try go_frame
                refine tkL 5 hHeld ?_; try go_frame
                refine tkL 6 hHeld ?_; try go_frame
                refine tkL 7 hHeld ?_; try go_frame
                refine tkL 8 hHeld ?_; try go_frame
                refine tkL 9 hHeld ?_; try go_frame
                refine tkL 10 hHeld ?_; try go_frame
                refine tkL 12 hHeld ?_; try go_frame
                refine tkL 13 hHeld ?_; try go_frame
                refine tkL 14 hHeld ?_; try go_frame
                refine tkL 15 hHeld ?_; try go_frame
                refine wpAnyH_ready (rs := [11]) (by kernel_rfl) (by simp) ?_
                refine consL rfl (fun K hK => ?_) AllReadyH.nil
                go_simp
                refine (CH.out _ k0).mono ?_
                rintro e wk1 ⟨rfl, bk1⟩
                have k1 : Below wr2.heap.size wr2 wk1 := k0.trans (bk1.mono k0.size)
                go_wp2_with fail
                refine hK.out _ _ (HM1.out _ k1) (fun hHeld => ?_)
                clear hK K
                try go_frame
                refine wpAnyH_ready (rs := [16]) (by kernel_rfl) (by simp) ?_
                refine consL rfl (fun K hK => ?_) AllReadyH.nil
                go_simp
                refine (CLO.out _ k1).mono ?_
                rintro e wk2 ⟨rfl, bk2⟩
                have k2 : Below wr2.heap.size wr2 wk2 := k1.trans (bk2.mono k1.size)
                go_wp2_with fail
                refine hK.out _ _ (HM1.out _ k2) (fun hHeld => ?_)
                clear hK K
                try go_frame
                refine tkL 17 hHeld ?_; try go_frame
                refine tkL 18 hHeld ?_; try go_frame
                refine wpAnyH_done (by kernel_rfl) ?_ _
                have KY : Hid (Below w.heap.size w wk2) := K1.out.trans (k2.mono K1.out.size)
                clear k0 k1 k2 bk1 bk2 HM1 hHeld
                go_wp2
                go_roundw
                case rel => exact ⟨i + 1, by omega, by go_num, KY.out, runs_snoc HW.out HN.out⟩
                case measure => simp [intOf]; omega
              | false =>
                have HN : Hid (runAt B true q i = false) := by show runAt B true q i = false; rw [HAT.out]; exact hcmp
                go_wp2_with fail
                refine wp_region_held_drew (S := (fun w' => w'.cell? ⟨b, off + i * 2, none⟩ = some (.slice (some ⟨bs, os, none⟩) ns cs) ∧ w'.cell? ⟨b, off + i * 2 + 1, none⟩ = some (.int .i64 m) ∧ w'.cell? ⟨b, off + (i - 1) * 2, none⟩ = some (.slice (some ⟨bp, op, none⟩) np cp) ∧ w'.cell? ⟨b, off + (i - 1) * 2 + 1, none⟩ = some (.int .i64 mp) ∧ b < w'.heap.size)) (by kernel_rfl) (HM1.out _ k0) (fun hHeld => ?_)
                refine tkL 0 hHeld ?_; try go_frame
                refine tkL 1 hHeld ?_; try go_frame
                refine tkL 2 hHeld ?_; try go_frame
                refine tkL 3 hHeld ?_; try go_frame
                refine tkL 4 hHeld ?_; try go_frame
                refine tkL 5 hHeld ?_; try go_frame
                refine tkL 6 hHeld ?_; try go_frame
                refine tkL 7 hHeld ?_; try go_frame
                refine tkL 8 hHeld ?_; try go_frame
                refine tkL 9 hHeld ?_; try go_frame
                refine tkL 10 hHeld ?_; try go_frame
                refine tkL 12 hHeld ?_; try go_frame
                refine tkL 13 hHeld ?_; try go_frame
                refine tkL 14 hHeld ?_; try go_frame
                refine tkL 15 hHeld ?_; try go_frame
                refine wpAnyH_ready (rs := [11]) (by kernel_rfl) (by simp) ?_
                refine consL rfl (fun K hK => ?_) AllReadyH.nil
                go_simp
                refine (CH.out _ k0).mono ?_
                rintro e wk1 ⟨rfl, bk1⟩
                have k1 : Below wr2.heap.size wr2 wk1 := k0.trans (bk1.mono k0.size)
                go_wp2_with fail
                refine hK.out _ _ (HM1.out _ k1) (fun hHeld => ?_)
                clear hK K
                try go_frame
                refine wpAnyH_ready (rs := [16]) (by kernel_rfl) (by simp) ?_
                refine consL rfl (fun K hK => ?_) AllReadyH.nil
                go_simp
                refine (CLO.out _ k1).mono ?_
                rintro e wk2 ⟨rfl, bk2⟩
                have k2 : Below wr2.heap.size wr2 wk2 := k1.trans (bk2.mono k1.size)
                go_wp2_with fail
                refine hK.out _ _ (HM1.out _ k2) (fun hHeld => ?_)
                clear hK K
                try go_frame
                refine tkL 17 hHeld ?_; try go_frame
                refine tkL 18 hHeld ?_; try go_frame
                refine wpAnyH_done (by kernel_rfl) ?_ _
                have KY : Hid (Below w.heap.size w wk2) := K1.out.trans (k2.mono K1.out.size)
                clear k0 k1 k2 bk1 bk2 HM1 hHeld
                go_wp2
                go_ret
                exact ⟨ret_bool (runs_no HKL.out HN.out).symm, KY.out⟩
    · have hinI : ¬ (i : Int) < (n : Int) := by omega
      have HC : Hid (runsB B most ap q = true) := by
        have hw := HW.out
        have hii : i = B.length := by rw [HLN.out]; omega
        rw [hii] at hw
        exact runs_all hw (by rw [HLN.out]; omega)
      go_wp2
      go_ret
      exact ⟨ret_bool HC.out.symm, HB.out⟩
end Go.Proofs.YtapjkbpfhmbfaaaGreatDoor
