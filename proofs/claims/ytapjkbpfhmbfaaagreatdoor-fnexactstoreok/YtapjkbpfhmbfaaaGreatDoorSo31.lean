/-
  Pieces of the program's TreeOk: ranges, by walks of their Go text.
  Pieces of the program's TreeOk: whether a run of a level is wrong, by walks of their Go text.
  Pieces of the program's TreeOk: its levels, by a walk of their Go text.
-/
import Derived.Test.YtapjkbpfhmbfaaaGreatDoorSo28
namespace Go.Proofs.YtapjkbpfhmbfaaaGreatDoor
open Go.RowKit
set_option maxRecDepth 100000
set_option maxHeartbeats 16000000
theorem implRange (b off n c : Nat) (L : List EntD) (w : World) (h : EntsAt w (some ⟨b, off, none⟩) n c L) (hn : 1 ≤ n) :
    Calls Tryz.prog 179 #[.slice (some ⟨b, off, none⟩) n c] w fun r w' => r = .returned (.agg #[.string (lowK L), .string (highK L)]) ∧ Below w.heap.size w w' := by
  have hln := h.length
  have hr := h.room
  have hbg := h.big
  unfold maxLen at hbg
  obtain ⟨el, hel, hlow⟩ := lowK_at (L := L) (by omega)
  obtain ⟨eh, heh, hhigh⟩ := highK_at (L := L) (by omega)
  rw [hln] at heh
  rw [hlow, hhigh]
  have hbb := (h.lies _ rfl (by omega)).1
  simp only at hbb
  obtain ⟨s, q, d, t, nn, hg, _, g0, _⟩ := h.ent (Below.refl _ w) hbb 0 (by omega)
  rw [hel] at hg
  cases hg
  obtain ⟨s', q', d', t', nn', hg', _, g1, _⟩ := h.ent (Below.refl _ w) hbb (n - 1) (by omega)
  rw [heh] at hg'
  cases hg'
  rw [Nat.zero_mul, Nat.add_zero] at g0
  have hnI : (0 : Int) < (n : Int) := by omega
  have hnN : 0 < n := hn
  have hj3 : (1 : Int) ≤ (n : Int) := by omega
  have hj1 : (0 : Int) ≤ (n : Int) - 1 := by omega
  have hj2 : (n : Int) - 1 < (n : Int) := by omega
  have hjt : ((n : Int) - 1).toNat = n - 1 := by omega
  have wj : IntKind.i64.wrap ((n : Int) - 1) = (n : Int) - 1 := by rw [IntWalk.i64_left]; unfold wrap64; omega
  clear h hlow hhigh hel heh hln
  generalize hel : (s, q, d, t, nn) = el
  generalize heh : (s', q', d', t', nn') = eh
  have e1 : s = el.1 := by rw [← hel]
  have e2 : s' = eh.1 := by rw [← heh]
  rw [e1] at g0
  rw [e2] at g1
  clear e1 e2 hel heh
  have k0 : Below w.heap.size w (w.alloc (.cells #[.string ⟨#[]⟩, .string ⟨#[]⟩] 188)).drew := ((Below.refl _ _).alloc (Nat.le_refl _) _).drew
  have HMK : Hid (∀ w', Below w.heap.size w w' → w.heap.size < w'.heap.size → (w'.cell? ⟨b, off, none⟩ = some (.string el.1) ∧ w'.cell? ⟨b, off + (n - 1) * 5, none⟩ = some (.string eh.1) ∧ b < w'.heap.size ∧ w.heap.size < w'.heap.size)) := fun w' kk z => ⟨cell_later kk g0, cell_later kk g1, Nat.lt_of_lt_of_le hbb kk.size, z⟩
  go_enter Tryz.func179, Tryz.ntmps179
  go_wp2_with fail
  refine wp_region_held_drew (S := (fun w' => w'.cell? ⟨b, off, none⟩ = some (.string el.1) ∧ w'.cell? ⟨b, off + (n - 1) * 5, none⟩ = some (.string eh.1) ∧ b < w'.heap.size ∧ w.heap.size < w'.heap.size)) (by kernel_rfl) (HMK.out _ k0 (by simp [World.drew])) (fun hHeld => ?_)
  refine tkL 0 hHeld ?_; try go_frame
  refine tkL 1 hHeld ?_; try go_frame
  refine tkL 2 hHeld ?_; try go_frame
  refine tkL 3 hHeld ?_; try go_frame
  refine tkL 4 hHeld ?_; try go_frame
  refine tkL 5 hHeld ?_; try go_frame
  refine tkL 6 hHeld ?_; try go_frame
  refine tkL 7 hHeld ?_; try go_frame
  refine tkL 8 hHeld ?_; try go_frame
  refine tkL 9 hHeld ?_; try go_frame
  refine tkL 10 hHeld ?_; try go_frame
  refine tkL 11 hHeld ?_; try go_frame
  refine wpAnyH_ready (rs := [12]) (by kernel_rfl) (by simp) ?_
  refine consL rfl (fun K hK => ?_) AllReadyH.nil
  go_simp
  go_wp2_with fail
  have k1 : Below w.heap.size w (w.alloc (.cells #[.string el.1, .string eh.1] 188)).drew := ((Below.refl _ _).alloc (Nat.le_refl _) _).drew
  refine hK.out _ _ (HMK.out _ k1 (by simp [World.drew])) (fun hHeld => ?_)
  clear hK K
  try go_frame
  refine wpAnyH_done (by kernel_rfl) ?_ _
  go_wp2
  exact bodyPost_ret (v := .agg #[.string el.1, .string eh.1]) (by simp [results, Tryz.results179, go_sem]) rfl ⟨rfl, k1⟩
theorem implAhead (a b c d : ByteArray) (w : World) :
    Calls Tryz.prog 232 #[.agg #[.string a, .string b], .agg #[.string c, .string d]] w fun e w' => e = .returned (.bool (Op.bytesLess b.toList c.toList)) ∧ Below w.heap.size w w' := by
  have k2 : ∀ o1 o2, Below w.heap.size w ((w.alloc o1).alloc o2) := fun o1 o2 => ((Below.refl _ _).alloc (Nat.le_refl _) o1).alloc (by simp) o2
  go_enter Tryz.func232, Tryz.ntmps232
  go_wp2
  go_ret
  exact ⟨rfl, k2 _ _⟩
def apAt (B : List RunD) (i : Nat) : Bool := match B[i]? with | none => true | some r => behindB B r i
def levApart (B : List RunD) : Bool := (List.range B.length).all (apAt B)
theorem apAt_prev {B : List RunD} {i : Nat} {r p : RunD} (h : B[i]? = some r) (hi : 1 ≤ i) (hp : B[i - 1]? = some p) : apAt B i = aheadB p.1 r.1 := by
  obtain ⟨j, rfl⟩ : ∃ j, i = j + 1 := ⟨i - 1, by omega⟩
  simp only [Nat.add_sub_cancel] at hp
  unfold apAt behindB
  simp only [h, hp]
theorem apart_no {B : List RunD} {i : Nat} (hi : i < B.length) (h : apAt B i = false) : levApart B = false := by
  rw [Bool.eq_false_iff]
  intro h1
  unfold levApart at h1
  rw [(List.all_eq_true.1 h1) i (List.mem_range.2 hi)] at h
  cases h
theorem apart_all {B : List RunD} {k : Nat} (h : ∀ j, 1 ≤ j → j < k → apAt B j = true) (hk : B.length ≤ k) : levApart B = true := by
  unfold levApart
  rw [List.all_eq_true]
  intro j hj
  have hj := List.mem_range.1 hj
  by_cases e : j = 0
  · subst e; unfold apAt behindB; cases B[0]? <;> rfl
  · exact h j (by omega) (by omega)
theorem apart_snoc {B : List RunD} {k : Nat} (h : ∀ j, 1 ≤ j → j < k → apAt B j = true) (hk : apAt B k = true) : ∀ j, 1 ≤ j → j < k + 1 → apAt B j = true := by
  intro j h1 h2
  by_cases e : j = k
  · subst e; exact hk
  · exact h j h1 (by omega)
theorem implApart (lo : Nat) (a : Option Addr) (n c : Nat) (B : List RunD) (w : World) (h : RunsIn lo w a n c B) (hne : ∀ r ∈ B, 1 ≤ r.1.length) :
    Calls Tryz.prog 194 #[.slice a n c] w fun e w' => e = .returned (.bool (levApart B)) ∧ Below w.heap.size w w' := by
  have HLN : Hid (B.length = n) := h.length
  have HNE : Hid (∀ r ∈ B, 1 ≤ r.1.length) := hne
  have hr := h.room
  have hbg := h.big
  unfold maxLen at hbg
  have H : Hid (RunsIn lo w a n c B) := h
  clear h hne
  go_enter Tryz.func194, Tryz.ntmps194
  go_wp2
  go_loopw [3] (fun iv wr => ∃ i : Nat, 1 ≤ i ∧ i ≤ n + 1 ∧ iv = .int .i64 i ∧ Below w.heap.size w wr ∧ (∀ j, 1 ≤ j → j < i → apAt B j = true)) (fun iv _ => n - (intOf iv).toNat)
  case atStart => exact ⟨1, Nat.le_refl _, by omega, rfl, Below.refl _ _, fun j h1 h2 => absurd h2 (by omega)⟩
  case round =>
    obtain ⟨i, hi1, hi, rfl, hb, hw⟩ := hrel
    have HW : Hid (∀ j, 1 ≤ j → j < i → apAt B j = true) := hw
    have HB : Hid (Below w.heap.size w wr) := hb
    clear hw
    by_cases hin : i < n
    · have hinI : (i : Int) < (n : Int) := by omega
      have HKL : Hid (i < B.length) := by show i < B.length; rw [HLN.out]; exact hin
      obtain ⟨b, off, rfl, hbb⟩ := H.out.form (by omega)
      obtain ⟨L, m, s, ns, cs, hg, _, g0, _, hE⟩ := H.out.run hb i hin
      obtain ⟨Lp, mp, sp, np, cp, hp, _, p0, _, hEp⟩ := H.out.run hb (i - 1) (by omega)
      have l1 := HNE.out _ (List.mem_of_getElem? hg)
      have l2 := HNE.out _ (List.mem_of_getElem? hp)
      have hns := hE.1.length
      have hnp := hEp.1.length
      simp only at l1 l2
      obtain ⟨bs, os, rfl, _⟩ := hE.1.form (by omega)
      obtain ⟨bp, op, rfl, _⟩ := hEp.1.form (by omega)
      have HAT : Hid (apAt B i = Op.bytesLess (highK Lp).toList (lowK L).toList) := apAt_prev hg hi1 hp
      have zb := Nat.lt_of_lt_of_le hbb hb.size
      have CP : Hid (∀ w', Below wr.heap.size wr w' → Calls Tryz.prog 179 #[.slice (some ⟨bp, op, none⟩) np cp] w' fun r w'' => r = .returned (.agg #[.string (lowK Lp), .string (highK Lp)]) ∧ Below w'.heap.size w' w'') := fun w' k => implRange bp op np cp Lp w' (hEp.1.keep k) (by omega)
      have CS : Hid (∀ w', Below wr.heap.size wr w' → Calls Tryz.prog 179 #[.slice (some ⟨bs, os, none⟩) ns cs] w' fun r w'' => r = .returned (.agg #[.string (lowK L), .string (highK L)]) ∧ Below w'.heap.size w' w'') := fun w' k => implRange bs os ns cs L w' (hE.1.keep k) (by omega)
      have CE : Hid (∀ w', Below wr.heap.size wr w' → Calls Tryz.prog 232 #[.agg #[.string (lowK Lp), .string (highK Lp)], .agg #[.string (lowK L), .string (highK L)]] w' fun e w'' => e = .returned (.bool (Op.bytesLess (highK Lp).toList (lowK L).toList)) ∧ Below w'.heap.size w' w'') := fun w' _ => implAhead _ _ _ _ w'
      have HMK : Hid (∀ w', Below wr.heap.size wr w' → (w'.cell? ⟨b, off + i * 2, none⟩ = some (.slice (some ⟨bs, os, none⟩) ns cs) ∧ w'.cell? ⟨b, off + (i - 1) * 2, none⟩ = some (.slice (some ⟨bp, op, none⟩) np cp) ∧ b < w'.heap.size)) := fun w' kk => ⟨cell_later kk g0, cell_later kk p0, Nat.lt_of_lt_of_le zb kk.size⟩
      have k0 : Below wr.heap.size wr wr.drew := (Below.refl _ wr).drew
      have hj1 : (0 : Int) ≤ (i : Int) - 1 := by omega
      have hj2 : (i : Int) - 1 < (n : Int) := by omega
      have hj3 : (1 : Int) ≤ (i : Int) := by omega
      have hjt : ((i : Int) - 1).toNat = i - 1 := by omega
      have wj : IntKind.i64.wrap ((i : Int) - 1) = (i : Int) - 1 := by rw [IntWalk.i64_left]; unfold wrap64; omega
      clear hg hp hE hEp l1 l2 hns hnp g0 p0 zb hb hi1
      generalize Op.bytesLess (highK Lp).toList (lowK L).toList = O at HAT CE
      generalize lowK Lp = x1, highK Lp = x2, lowK L = x3, highK L = x4 at CP CS CE
      cases O with
      | true =>
        go_wp2_with fail
        refine wp_region_held_drew (S := (fun w' => w'.cell? ⟨b, off + i * 2, none⟩ = some (.slice (some ⟨bs, os, none⟩) ns cs) ∧ w'.cell? ⟨b, off + (i - 1) * 2, none⟩ = some (.slice (some ⟨bp, op, none⟩) np cp) ∧ b < w'.heap.size)) (by kernel_rfl) (HMK.out _ k0) (fun hHeld => ?_)
        refine tkL 0 hHeld ?_; try go_frame
        refine tkL 1 hHeld ?_; try go_frame
        refine tkL 2 hHeld ?_; try go_frame
        refine tkL 3 hHeld ?_; try go_frame
        refine tkL 4 hHeld ?_; try go_frame
        refine tkL 5 hHeld ?_; try go_frame
        refine tkL 7 hHeld ?_; try go_frame
        refine tkL 8 hHeld ?_; try go_frame
        refine tkL 9 hHeld ?_; try go_frame
        refine tkL 10 hHeld ?_; try go_frame
        refine tkL 11 hHeld ?_; try go_frame
        refine wpAnyH_ready (rs := [6]) (by kernel_rfl) (by simp) ?_
        refine consL rfl (fun K hK => ?_) AllReadyH.nil
        go_simp
        refine (CP.out _ k0).mono ?_
        rintro e wk1 ⟨rfl, bk1⟩
        have k1 : Below wr.heap.size wr wk1 := k0.trans (bk1.mono k0.size)
        go_wp2_with fail
        refine hK.out _ _ (HMK.out _ k1) (fun hHeld => ?_)
        clear hK K
        try go_frame
        refine wpAnyH_ready (rs := [12]) (by kernel_rfl) (by simp) ?_
        refine consL rfl (fun K hK => ?_) AllReadyH.nil
        go_simp
        refine (CS.out _ k1).mono ?_
        rintro e wk2 ⟨rfl, bk2⟩
        have k2 : Below wr.heap.size wr wk2 := k1.trans (bk2.mono k1.size)
        go_wp2_with fail
        refine hK.out _ _ (HMK.out _ k2) (fun hHeld => ?_)
        clear hK K
        try go_frame
        refine wpAnyH_ready (rs := [13]) (by kernel_rfl) (by simp) ?_
        refine consL rfl (fun K hK => ?_) AllReadyH.nil
        go_simp
        refine (CE.out _ k2).mono ?_
        rintro e wk3 ⟨rfl, bk3⟩
        have k3 : Below wr.heap.size wr wk3 := k2.trans (bk3.mono k2.size)
        go_wp2_with fail
        refine hK.out _ _ (HMK.out _ k3) (fun hHeld => ?_)
        clear hK K
        try go_frame
        refine tkL 14 hHeld ?_; try go_frame
        refine wpAnyH_done (by kernel_rfl) ?_ _
        have KY : Hid (Below w.heap.size w wk3) := HB.out.trans (k3.mono HB.out.size)
        clear k0 k1 k2 k3 bk1 bk2 bk3 HMK CP CS CE hHeld
        go_wp2
        go_roundw
        case rel => exact ⟨i + 1, by omega, by omega, by go_num, KY.out, apart_snoc HW.out HAT.out⟩
        case measure => simp [intOf]; omega
      | false =>
        go_wp2_with fail
        refine wp_region_held_drew (S := (fun w' => w'.cell? ⟨b, off + i * 2, none⟩ = some (.slice (some ⟨bs, os, none⟩) ns cs) ∧ w'.cell? ⟨b, off + (i - 1) * 2, none⟩ = some (.slice (some ⟨bp, op, none⟩) np cp) ∧ b < w'.heap.size)) (by kernel_rfl) (HMK.out _ k0) (fun hHeld => ?_)
        refine tkL 0 hHeld ?_; try go_frame
        refine tkL 1 hHeld ?_; try go_frame
        refine tkL 2 hHeld ?_; try go_frame
        refine tkL 3 hHeld ?_; try go_frame
        refine tkL 4 hHeld ?_; try go_frame
        refine tkL 5 hHeld ?_; try go_frame
        refine tkL 7 hHeld ?_; try go_frame
        refine tkL 8 hHeld ?_; try go_frame
        refine tkL 9 hHeld ?_; try go_frame
        refine tkL 10 hHeld ?_; try go_frame
        refine tkL 11 hHeld ?_; try go_frame
        refine wpAnyH_ready (rs := [6]) (by kernel_rfl) (by simp) ?_
        refine consL rfl (fun K hK => ?_) AllReadyH.nil
        go_simp
        refine (CP.out _ k0).mono ?_
        rintro e wk1 ⟨rfl, bk1⟩
        have k1 : Below wr.heap.size wr wk1 := k0.trans (bk1.mono k0.size)
        go_wp2_with fail
        refine hK.out _ _ (HMK.out _ k1) (fun hHeld => ?_)
        clear hK K
        try go_frame
        refine wpAnyH_ready (rs := [12]) (by kernel_rfl) (by simp) ?_
        refine consL rfl (fun K hK => ?_) AllReadyH.nil
        go_simp
        refine (CS.out _ k1).mono ?_
        rintro e wk2 ⟨rfl, bk2⟩
        have k2 : Below wr.heap.size wr wk2 := k1.trans (bk2.mono k1.size)
        go_wp2_with fail
        refine hK.out _ _ (HMK.out _ k2) (fun hHeld => ?_)
        clear hK K
        try go_frame
        refine wpAnyH_ready (rs := [13]) (by kernel_rfl) (by simp) ?_
        refine consL rfl (fun K hK => ?_) AllReadyH.nil
        go_simp
        refine (CE.out _ k2).mono ?_
        rintro e wk3 ⟨rfl, bk3⟩
        have k3 : Below wr.heap.size wr wk3 := k2.trans (bk3.mono k2.size)
        go_wp2_with fail
        refine hK.out _ _ (HMK.out _ k3) (fun hHeld => ?_)
        clear hK K
        try go_frame
        refine tkL 14 hHeld ?_; try go_frame
        refine wpAnyH_done (by kernel_rfl) ?_ _
        have KY : Hid (Below w.heap.size w wk3) := HB.out.trans (k3.mono HB.out.size)
        clear k0 k1 k2 k3 bk1 bk2 bk3 HMK CP CS CE hHeld
        go_wp2
        go_ret
        exact ⟨ret_bool (apart_no HKL.out HAT.out).symm, KY.out⟩
    · have hinI : ¬ (i : Int) < (n : Int) := by omega
      have HC : Hid (levApart B = true) := apart_all HW.out (by rw [HLN.out]; omega)
      go_wp2
      go_ret
      exact ⟨ret_bool HC.out.symm, HB.out⟩
end Go.Proofs.YtapjkbpfhmbfaaaGreatDoor

namespace Go.Proofs.YtapjkbpfhmbfaaaGreatDoor
open Go.RowKit
set_option maxRecDepth 100000
set_option maxHeartbeats 4000000
def badB (B : List RunD) : Bool := B.any (fun r => !runB r.1 r.2)
theorem bad_yes {B : List RunD} {i : Nat} {r : RunD} (h : B[i]? = some r) (hr : runB r.1 r.2 = false) : badB B = true := by
  unfold badB
  rw [List.any_eq_true]
  exact ⟨r, List.mem_of_getElem? h, by rw [hr]; rfl⟩
theorem bad_no {B : List RunD} {k : Nat} (h : ∀ j r, j < k → B[j]? = some r → runB r.1 r.2 = true) (hk : B.length ≤ k) : badB B = false := by
  unfold badB
  rw [List.any_eq_false]
  intro r hr
  obtain ⟨j, hj, e⟩ := List.getElem_of_mem hr
  rw [h j r (by omega) (by rw [List.getElem?_eq_getElem hj, e])]
  simp
theorem bad_all {B : List RunD} (h : badB B = false) : ∀ r ∈ B, runB r.1 r.2 = true := by
  intro r hr
  unfold badB at h
  rw [List.any_eq_false] at h
  simpa using h r hr
theorem indexBad (lo : Nat) (a : Option Addr) (n c : Nat) (B : List RunD) (w : World) (h : RunsIn lo w a n c B) :
    Calls Tryz.prog 239 #[.slice a n c, .func (.func 193) #[] #[]] w fun e w' => (∃ z : Int, e = .returned (.int .i64 z) ∧ decide (0 ≤ z) = badB B) ∧ Below w.heap.size w w' := by
  have HLN : Hid (B.length = n) := h.length
  have hr := h.room
  have hbg := h.big
  unfold maxLen at hbg
  have H : Hid (RunsIn lo w a n c B) := h
  clear h
  go_enter Tryz.func239, Tryz.ntmps239
  go_wp2
  go_loopw [8] (fun iv wr => ∃ i : Nat, i ≤ n ∧ iv = .int .i64 i ∧ Below w.heap.size w wr ∧ (∀ j r, j < i → B[j]? = some r → runB r.1 r.2 = true)) (fun iv _ => n - (intOf iv).toNat)
  case atStart => exact ⟨0, Nat.zero_le _, rfl, Below.refl _ _, fun j r hj => absurd hj (Nat.not_lt_zero _)⟩
  case round =>
    obtain ⟨i, hi, rfl, hb, hw⟩ := hrel
    have HW : Hid (∀ j r, j < i → B[j]? = some r → runB r.1 r.2 = true) := hw
    have HB : Hid (Below w.heap.size w wr) := hb
    clear hw
    by_cases hin : i < n
    · have hinI : (i : Int) < (n : Int) := by omega
      obtain ⟨b, off, rfl, hbb⟩ := H.out.form (by omega)
      obtain ⟨L, m, s, ns, cs, hg, _, g0, g1, hE⟩ := H.out.run hb i hin
      have HG : Hid (B[i]? = some (L, m)) := hg
      have HE : Hid (EntsAt wr s ns cs L) := hE.1
      have zb := Nat.lt_of_lt_of_le hbb hb.size
      clear hg hb hE
      obtain ⟨O, hO⟩ : ∃ O, O = runB L m := ⟨_, rfl⟩
      go_wp2_with fail
      refine (implNoRun m s ns cs L wr HE.out).mono ?_
      rw [← hO]
      rintro e w1 ⟨rfl, hb1⟩
      have K1 : Hid (Below w.heap.size w w1) := HB.out.trans (hb1.mono HB.out.size)
      clear hb1
      cases hOv : O with
      | false =>
        have HN : Hid (badB B = true) := bad_yes HG.out (by show runB L m = false; rw [← hO, hOv])
        go_wp2
        go_ret
        exact ⟨⟨(i : Int), rfl, by rw [HN.out]; simp⟩, K1.out⟩
      | true =>
        have HN : Hid (∀ j r, j < i + 1 → B[j]? = some r → runB r.1 r.2 = true) := by
          intro j r hj hr
          by_cases e : j = i
          · subst e; rw [HG.out] at hr; cases hr; show runB L m = true; rw [← hO, hOv]
          · exact HW.out j r (by omega) hr
        go_wp2
        go_roundw
        case rel => exact ⟨i + 1, by omega, by go_num, K1.out, HN.out⟩
        case measure => simp [intOf]; omega
    · have hinI : ¬ (i : Int) < (n : Int) := by omega
      have HC : Hid (badB B = false) := bad_no HW.out (by rw [HLN.out]; omega)
      go_wp2
      go_ret
      exact ⟨⟨-1, rfl, by rw [HC.out]; rfl⟩, HB.out⟩
theorem containsBad (lo : Nat) (a : Option Addr) (n c : Nat) (B : List RunD) (w : World) (h : RunsIn lo w a n c B) :
    Calls Tryz.prog 192 #[.slice a n c, .func (.func 193) #[] #[]] w fun e w' => e = .returned (.bool (badB B)) ∧ Below w.heap.size w w' := by
  go_enter Tryz.func192, Tryz.ntmps192
  go_wp2_with fail
  refine (indexBad lo a n c B w h).mono ?_
  rintro e w1 ⟨⟨z, rfl, hz⟩, hb1⟩
  have HZ : Hid (decide (0 ≤ z) = badB B) := hz
  clear hz
  go_wp2
  go_ret
  exact ⟨ret_bool HZ.out, hb1⟩
theorem implMost0 (w : World) : Calls Tryz.prog 191 #[.int .i64 0] w fun e w' => e = .returned (.int .i64 4) ∧ w' = w := by
  go_enter Tryz.func191, Tryz.ntmps191
  go_wp2
  go_ret
  exact ⟨rfl, rfl⟩
theorem implMost1 (k : Nat) (w : World) (h : 1 ≤ k) : Calls Tryz.prog 191 #[.int .i64 (k : Int)] w fun e w' => e = .returned (.int .i64 8) ∧ w' = w := by
  have h1 : ¬ (k : Int) = 0 := by omega
  have h2 : ¬ k = 0 := by omega
  go_enter Tryz.func191, Tryz.ntmps191
  go_wp2
  go_ret
  exact ⟨rfl, rfl⟩
end Go.Proofs.YtapjkbpfhmbfaaaGreatDoor

namespace Go.Proofs.YtapjkbpfhmbfaaaGreatDoor
open Go.RowKit
set_option maxRecDepth 100000
set_option maxHeartbeats 16000000
def ok0 (B : List RunD) : Bool := decide ((B.length : Int) ≤ 4) && !badB B
def ok1 (B : List RunD) : Bool := decide ((B.length : Int) ≤ 8) && (!badB B && levApart B)
def levelsI (A B C : List RunD) : Bool := ok0 A && (ok1 B && ok1 C)
theorem idx_0 (w : World) (a0 a1 a2 : Option Addr) (n0 c0 n1 c1 n2 c2 : Nat) : (Instr.index 65 (.agg #[.slice a0 n0 c0, .slice a1 n1 c1, .slice a2 n2 c2]) (.int .i64 0)).run Tryz.prog w = .ok (.slice a0 n0 c0) w := by
  simp [Instr.index, run_underlying Tryz.underlying65, asIntOf, go_sem, Tryz.isAgg64, Tryz.sizeOf64, part]
theorem idx_1 (w : World) (a0 a1 a2 : Option Addr) (n0 c0 n1 c1 n2 c2 : Nat) : (Instr.index 65 (.agg #[.slice a0 n0 c0, .slice a1 n1 c1, .slice a2 n2 c2]) (.int .i64 1)).run Tryz.prog w = .ok (.slice a1 n1 c1) w := by
  simp [Instr.index, run_underlying Tryz.underlying65, asIntOf, go_sem, Tryz.isAgg64, Tryz.sizeOf64, part]
theorem idx_2 (w : World) (a0 a1 a2 : Option Addr) (n0 c0 n1 c1 n2 c2 : Nat) : (Instr.index 65 (.agg #[.slice a0 n0 c0, .slice a1 n1 c1, .slice a2 n2 c2]) (.int .i64 2)).run Tryz.prog w = .ok (.slice a2 n2 c2) w := by
  simp [Instr.index, run_underlying Tryz.underlying65, asIntOf, go_sem, Tryz.isAgg64, Tryz.sizeOf64, part]
theorem implLevels (lo : Nat) (q : Int) (am ak : Option Addr) (nm cm nk ck : Nat) (a0 a1 a2 : Option Addr) (n0 c0 n1 c1 n2 c2 : Nat) (A B C : List RunD) (w : World) (h0 : RunsIn lo w a0 n0 c0 A) (h1 : RunsIn lo w a1 n1 c1 B) (h2 : RunsIn lo w a2 n2 c2 C) :
    Calls Tryz.prog 143 #[.agg #[.int .i64 q, .slice am nm cm, .slice a0 n0 c0, .slice a1 n1 c1, .slice a2 n2 c2, .slice ak nk ck]] w fun e w' => e = .returned (.bool (levelsI A B C)) ∧ Below w.heap.size w w' := by
  have HR0 : Hid (RunsIn lo w a0 n0 c0 A) := h0
  have HR1 : Hid (RunsIn lo w a1 n1 c1 B) := h1
  have HR2 : Hid (RunsIn lo w a2 n2 c2 C) := h2
  have HN0 : Hid (A.length = n0) := h0.length
  have HN1 : Hid (B.length = n1) := h1.length
  have HN2 : Hid (C.length = n2) := h2.length
  clear h0 h1 h2
  go_enter Tryz.func143, Tryz.ntmps143
  go_upto_region 1 with fail
  obtain ⟨W, hW⟩ : ∃ W, W = w.alloc (.cells #[.int .i64 q, .slice am nm cm, .slice a0 n0 c0, .slice a1 n1 c1, .slice a2 n2 c2, .slice ak nk ck] 67) := ⟨_, rfl⟩
  have kW : Below w.heap.size w W := by rw [hW]; exact (Below.refl _ _).alloc (Nat.le_refl _) _
  have x2 : W.cell? ⟨w.heap.size, 2, none⟩ = some (.slice a0 n0 c0) := by rw [hW]; simp
  have x3 : W.cell? ⟨w.heap.size, 3, none⟩ = some (.slice a1 n1 c1) := by rw [hW]; simp
  have x4 : W.cell? ⟨w.heap.size, 4, none⟩ = some (.slice a2 n2 c2) := by rw [hW]; simp
  have zX := World.block_lt_of_cell? _ _ x2
  have HKW : Hid (∀ wr, Below W.heap.size W wr → Below w.heap.size w wr) := fun wr k => kW.trans (k.mono kW.size)
  rw [← hW]
  clear hW kW
  go_wp2
  go_loopw [7] (fun iv wr => ∃ i : Nat, i ≤ 3 ∧ iv = .int .i64 i ∧ Below W.heap.size W wr ∧ (1 ≤ i → ok0 A = true) ∧ (2 ≤ i → ok1 B = true) ∧ (3 ≤ i → ok1 C = true)) (fun iv _ => 3 - (intOf iv).toNat)
  case atStart => exact ⟨0, by omega, rfl, Below.refl _ _, fun h => absurd h (by omega), fun h => absurd h (by omega), fun h => absurd h (by omega)⟩
  case round =>
    obtain ⟨i, hi, rfl, hb, hw0, hw1, hw2⟩ := hrel
    have HB : Hid (Below W.heap.size W wr) := hb
    have HW0 : Hid (1 ≤ i → ok0 A = true) := hw0
    have HW1 : Hid (2 ≤ i → ok1 B = true) := hw1
    have HW2 : Hid (3 ≤ i → ok1 C = true) := hw2
    clear hb hw0 hw1 hw2
    have hcase : i = 0 ∨ i = 1 ∨ i = 2 ∨ i = 3 := by omega
    rcases hcase with hI | hI | hI | hI
    · skip
      subst hI
      by_cases hl : (4 : Int) < (n0 : Int)
      · have HN : Hid (levelsI A B C = false) := by
          have h1 : decide ((A.length : Int) ≤ 4) = false := decide_eq_false (by have := HN0.out; omega)
          show levelsI A B C = false
          unfold levelsI ok0 ok1
          rw [h1]
          simp
        go_wp2_with fail
        rw [idx_0]
        go_wp2_with fail
        refine (implMost0 wr).mono ?_
        rintro e w' ⟨rfl, rfl⟩
        go_wp2
        go_ret
        exact ⟨ret_bool HN.out.symm, HKW.out _ HB.out⟩
      have HL : Hid (decide ((A.length : Int) ≤ 4) = true) := decide_eq_true (by have := HN0.out; omega)
      obtain ⟨O, hO⟩ : ∃ O, O = badB A := ⟨_, rfl⟩
      go_wp2_with fail
      rw [idx_0]
      go_wp2_with fail
      refine (implMost0 wr).mono ?_
      rintro e w' ⟨rfl, rfl⟩
      go_wp2_with fail
      refine (containsBad lo a0 n0 c0 A _ (HR0.out.keep (HKW.out _ HB.out))).mono ?_
      rw [← hO]
      rintro e w1 ⟨rfl, hb1⟩
      have K1 : Hid (Below W.heap.size W w1) := HB.out.trans (hb1.mono HB.out.size)
      clear hb1
      cases hOv : O with
      | true =>
        have HN : Hid (levelsI A B C = false) := by
          have h1 : badB A = true := by rw [← hO, hOv]
          show levelsI A B C = false
          unfold levelsI ok0 ok1
          rw [h1]
          simp
        go_wp2
        go_ret
        exact ⟨ret_bool HN.out.symm, HKW.out _ K1.out⟩
      | false =>
        have HN : Hid (ok0 A = true) := by
          have h1 : badB A = false := by rw [← hO, hOv]
          show ok0 A = true
          unfold ok0
          rw [HL.out, h1]
          rfl
        go_wp2
        go_roundw
        case rel => exact ⟨1, by omega, rfl, K1.out, fun _ => HN.out, fun h => absurd h (by omega), fun h => absurd h (by omega)⟩
        case measure => simp [intOf]
    · skip
      subst hI
      by_cases hl : (8 : Int) < (n1 : Int)
      · have HN : Hid (levelsI A B C = false) := by
          have h1 : decide ((B.length : Int) ≤ 8) = false := decide_eq_false (by have := HN1.out; omega)
          show levelsI A B C = false
          unfold levelsI ok0 ok1
          rw [h1]
          simp
        go_wp2_with fail
        rw [idx_1]
        go_wp2_with fail
        refine (implMost1 1 wr (by omega)).mono ?_
        rintro e w' ⟨rfl, rfl⟩
        go_wp2
        go_ret
        exact ⟨ret_bool HN.out.symm, HKW.out _ HB.out⟩
      have HL : Hid (decide ((B.length : Int) ≤ 8) = true) := decide_eq_true (by have := HN1.out; omega)
      obtain ⟨O, hO⟩ : ∃ O, O = badB B := ⟨_, rfl⟩
      go_wp2_with fail
      rw [idx_1]
      go_wp2_with fail
      refine (implMost1 1 wr (by omega)).mono ?_
      rintro e w' ⟨rfl, rfl⟩
      go_wp2_with fail
      refine (containsBad lo a1 n1 c1 B _ (HR1.out.keep (HKW.out _ HB.out))).mono ?_
      rw [← hO]
      rintro e w1 ⟨rfl, hb1⟩
      have K1 : Hid (Below W.heap.size W w1) := HB.out.trans (hb1.mono HB.out.size)
      clear hb1
      cases hOv : O with
      | true =>
        have HN : Hid (levelsI A B C = false) := by
          have h1 : badB B = true := by rw [← hO, hOv]
          show levelsI A B C = false
          unfold levelsI ok0 ok1
          rw [h1]
          simp
        go_wp2
        go_ret
        exact ⟨ret_bool HN.out.symm, HKW.out _ K1.out⟩
      | false =>
        have HBF : Hid (badB B = false) := by show _ = _; rw [← hO, hOv]
        obtain ⟨G, hG⟩ : ∃ G, G = levApart B := ⟨_, rfl⟩
        go_wp2_with fail
        refine (implApart lo a1 n1 c1 B _ (HR1.out.keep (HKW.out _ K1.out)) (fun r hr => (runB_parts (bad_all HBF.out r hr)).1)).mono ?_
        rw [← hG]
        rintro e w2 ⟨rfl, hb2⟩
        have K2 : Hid (Below W.heap.size W w2) := K1.out.trans (hb2.mono K1.out.size)
        clear hb2
        cases hGv : G with
        | false =>
          have HN : Hid (levelsI A B C = false) := by
            have h1 : levApart B = false := by rw [← hG, hGv]
            show levelsI A B C = false
            unfold levelsI ok0 ok1
            rw [h1]
            simp
          go_wp2
          go_ret
          exact ⟨ret_bool HN.out.symm, HKW.out _ K2.out⟩
        | true =>
          have HN : Hid (ok1 B = true) := by
            have h1 : levApart B = true := by rw [← hG, hGv]
            show ok1 B = true
            unfold ok1
            rw [HL.out, HBF.out, h1]
            rfl
          go_wp2
          go_roundw
          case rel => exact ⟨2, by omega, rfl, K2.out, fun _ => HW0.out (by omega), fun _ => HN.out, fun h => absurd h (by omega)⟩
          case measure => simp [intOf]
    · skip
      subst hI
      by_cases hl : (8 : Int) < (n2 : Int)
      · have HN : Hid (levelsI A B C = false) := by
          have h1 : decide ((C.length : Int) ≤ 8) = false := decide_eq_false (by have := HN2.out; omega)
          show levelsI A B C = false
          unfold levelsI ok0 ok1
          rw [h1]
          simp
        go_wp2_with fail
        rw [idx_2]
        go_wp2_with fail
        refine (implMost1 2 wr (by omega)).mono ?_
        rintro e w' ⟨rfl, rfl⟩
        go_wp2
        go_ret
        exact ⟨ret_bool HN.out.symm, HKW.out _ HB.out⟩
      have HL : Hid (decide ((C.length : Int) ≤ 8) = true) := decide_eq_true (by have := HN2.out; omega)
      obtain ⟨O, hO⟩ : ∃ O, O = badB C := ⟨_, rfl⟩
      go_wp2_with fail
      rw [idx_2]
      go_wp2_with fail
      refine (implMost1 2 wr (by omega)).mono ?_
      rintro e w' ⟨rfl, rfl⟩
      go_wp2_with fail
      refine (containsBad lo a2 n2 c2 C _ (HR2.out.keep (HKW.out _ HB.out))).mono ?_
      rw [← hO]
      rintro e w1 ⟨rfl, hb1⟩
      have K1 : Hid (Below W.heap.size W w1) := HB.out.trans (hb1.mono HB.out.size)
      clear hb1
      cases hOv : O with
      | true =>
        have HN : Hid (levelsI A B C = false) := by
          have h1 : badB C = true := by rw [← hO, hOv]
          show levelsI A B C = false
          unfold levelsI ok0 ok1
          rw [h1]
          simp
        go_wp2
        go_ret
        exact ⟨ret_bool HN.out.symm, HKW.out _ K1.out⟩
      | false =>
        have HBF : Hid (badB C = false) := by show _ = _; rw [← hO, hOv]
        obtain ⟨G, hG⟩ : ∃ G, G = levApart C := ⟨_, rfl⟩
        go_wp2_with fail
        refine (implApart lo a2 n2 c2 C _ (HR2.out.keep (HKW.out _ K1.out)) (fun r hr => (runB_parts (bad_all HBF.out r hr)).1)).mono ?_
        rw [← hG]
        rintro e w2 ⟨rfl, hb2⟩
        have K2 : Hid (Below W.heap.size W w2) := K1.out.trans (hb2.mono K1.out.size)
        clear hb2
        cases hGv : G with
        | false =>
          have HN : Hid (levelsI A B C = false) := by
            have h1 : levApart C = false := by rw [← hG, hGv]
            show levelsI A B C = false
            unfold levelsI ok0 ok1
            rw [h1]
            simp
          go_wp2
          go_ret
          exact ⟨ret_bool HN.out.symm, HKW.out _ K2.out⟩
        | true =>
          have HN : Hid (ok1 C = true) := by
            have h1 : levApart C = true := by rw [← hG, hGv]
            show ok1 C = true
            unfold ok1
            rw [HL.out, HBF.out, h1]
            rfl
          go_wp2
          go_roundw
          case rel => exact ⟨3, by omega, rfl, K2.out, fun _ => HW0.out (by omega), fun _ => HW1.out (by omega), fun _ => HN.out⟩
          case measure => simp [intOf]
    · subst hI
      have HC : Hid (levelsI A B C = true) := by
        show levelsI A B C = true
        unfold levelsI
        rw [HW0.out (by omega), HW1.out (by omega), HW2.out (by omega)]
        rfl
      go_wp2
      go_ret
      exact ⟨ret_bool HC.out.symm, HKW.out _ HB.out⟩
end Go.Proofs.YtapjkbpfhmbfaaaGreatDoor
