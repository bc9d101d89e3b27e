/-
  Pieces of the program's TreeOk: ranges, by walks of their Go text.
  Pieces of the program's TreeOk: whether a run of a level is wrong, by walks of their Go text.
  Pieces of the program's TreeOk: its levels, by a walk of their Go text.
  Plain: what the program asks of a tree is what the document asks; no statement of the program stands here.
-/
import Derived.Test.YtlmgojlffgkciaaGreatGa13
import Derived.Test.YtlmgojlffgkciaaGreatGa14
import Derived.Test.YtlmgojlffgkciaaGreatGa00
namespace Go.Proofs.YtlmgojlffgkciaaGreat
open Go.RowKit
set_option maxRecDepth 100000
set_option maxHeartbeats 16000000
theorem implRange (b off n c : Nat) (L : List EntD) (w : World) (h : EntsAt w (some ⟨b, off, none⟩) n c L) (hn : 1 ≤ n) :
    Calls Tryz.prog 104 #[.slice (some ⟨b, off, none⟩) n c] w fun r w' => r = .returned (.agg #[.string (lowK L), .string (highK L)]) ∧ Below w.heap.size w w' := by
  have hln := h.length
  have hr := h.room
  have hbg := h.big
  unfold maxLen at hbg
  obtain ⟨el, hel, hlow⟩ := lowK_at (L := L) (by omega)
  obtain ⟨eh, heh, hhigh⟩ := highK_at (L := L) (by omega)
  rw [hln] at heh
  rw [hlow, hhigh]
  have hbb := (h.lies _ rfl (by omega)).1
  simp only at hbb
  obtain ⟨s, q, d, t, nn, hg, _, g0, _⟩ := h.ent (Below.refl _ w) hbb 0 (by omega)
  rw [hel] at hg
  cases hg
  obtain ⟨s', q', d', t', nn', hg', _, g1, _⟩ := h.ent (Below.refl _ w) hbb (n - 1) (by omega)
  rw [heh] at hg'
  cases hg'
  rw [Nat.zero_mul, Nat.add_zero] at g0
  have hnI : (0 : Int) < (n : Int) := by omega
  have hnN : 0 < n := hn
  have hj3 : (1 : Int) ≤ (n : Int) := by omega
  have hj1 : (0 : Int) ≤ (n : Int) - 1 := by omega
  have hj2 : (n : Int) - 1 < (n : Int) := by omega
  have hjt : ((n : Int) - 1).toNat = n - 1 := by omega
  have wj : IntKind.i64.wrap ((n : Int) - 1) = (n : Int) - 1 := by rw [IntWalk.i64_left]; unfold wrap64; omega
  clear h hlow hhigh hel heh hln
  generalize hel : (s, q, d, t, nn) = el
  generalize heh : (s', q', d', t', nn') = eh
  have e1 : s = el.1 := by rw [← hel]
  have e2 : s' = eh.1 := by rw [← heh]
  rw [e1] at g0
  rw [e2] at g1
  clear e1 e2 hel heh
  have k0 : Below w.heap.size w (w.alloc (.cells #[.string ⟨#[]⟩, .string ⟨#[]⟩] 109)).drew := ((Below.refl _ _).alloc (Nat.le_refl _) _).drew
  have HMK : Hid (∀ w', Below w.heap.size w w' → w.heap.size < w'.heap.size → (w'.cell? ⟨b, off, none⟩ = some (.string el.1) ∧ w'.cell? ⟨b, off + (n - 1) * 5, none⟩ = some (.string eh.1) ∧ b < w'.heap.size ∧ w.heap.size < w'.heap.size)) := fun w' kk z => ⟨cell_later kk g0, cell_later kk g1, Nat.lt_of_lt_of_le hbb kk.size, z⟩
  go_enter Tryz.func104, Tryz.ntmps104
  go_wp2_with fail
  refine wp_region_held_drew (S := (fun w' => w'.cell? ⟨b, off, none⟩ = some (.string el.1) ∧ w'.cell? ⟨b, off + (n - 1) * 5, none⟩ = some (.string eh.1) ∧ b < w'.heap.size ∧ w.heap.size < w'.heap.size)) (by kernel_rfl) (HMK.out _ k0 (by simp [World.drew])) (fun hHeld => ?_)
  refine tkL 0 hHeld ?_; try go_frame
  refine tkL 1 hHeld ?_; try go_frame
  refine tkL 2 hHeld ?_; try go_frame
  refine tkL 3 hHeld ?_; try go_frame
  refine tkL 4 hHeld ?_; try go_frame
  refine tkL 5 hHeld ?_; try go_frame
  refine tkL 6 hHeld ?_; try go_frame
  refine tkL 7 hHeld ?_; try go_frame
  refine tkL 8 hHeld ?_; try go_frame
  refine tkL 9 hHeld ?_; try go_frame
  refine tkL 10 hHeld ?_; try go_frame
  refine tkL 11 hHeld ?_; try go_frame
  refine wpAnyH_ready (rs := [12]) (by kernel_rfl) (by simp) ?_
  refine consL rfl (fun K hK => ?_) AllReadyH.nil
  go_simp
  go_wp2_with fail
  have k1 : Below w.heap.size w (w.alloc (.cells #[.string el.1, .string eh.1] 109)).drew := ((Below.refl _ _).alloc (Nat.le_refl _) _).drew
  refine hK.out _ _ (HMK.out _ k1 (by simp [World.drew])) (fun hHeld => ?_)
  clear hK K
  try go_frame
  refine wpAnyH_done (by kernel_rfl) ?_ _
  go_wp2
  exact bodyPost_ret (v := .agg #[.string el.1, .string eh.1]) (by simp [results, Tryz.results104, go_sem]) rfl ⟨rfl, k1⟩
theorem implAhead (a b c d : ByteArray) (w : World) :
    Calls Tryz.prog 132 #[.agg #[.string a, .string b], .agg #[.string c, .string d]] w fun e w' => e = .returned (.bool (Op.bytesLess b.toList c.toList)) ∧ Below w.heap.size w w' := by
  have k2 : ∀ o1 o2, Below w.heap.size w ((w.alloc o1).alloc o2) := fun o1 o2 => ((Below.refl _ _).alloc (Nat.le_refl _) o1).alloc (by simp) o2
  go_enter Tryz.func132, Tryz.ntmps132
  go_wp2
  go_ret
  exact ⟨rfl, k2 _ _⟩
def apAt (B : List RunD) (i : Nat) : Bool := match B[i]? with | none => true | some r => behindB B r i
def levApart (B : List RunD) : Bool := (List.range B.length).all (apAt B)
theorem apAt_prev {B : List RunD} {i : Nat} {r p : RunD} (h : B[i]? = some r) (hi : 1 ≤ i) (hp : B[i - 1]? = some p) : apAt B i = aheadB p.1 r.1 := by
  obtain ⟨j, rfl⟩ : ∃ j, i = j + 1 := ⟨i - 1, by omega⟩
  simp only [Nat.add_sub_cancel] at hp
  unfold apAt behindB
  simp only [h, hp]
theorem apart_no {B : List RunD} {i : Nat} (hi : i < B.length) (h : apAt B i = false) : levApart B = false := by
  rw [Bool.eq_false_iff]
  intro h1
  unfold levApart at h1
  rw [(List.all_eq_true.1 h1) i (List.mem_range.2 hi)] at h
  cases h
theorem apart_all {B : List RunD} {k : Nat} (h : ∀ j, 1 ≤ j → j < k → apAt B j = true) (hk : B.length ≤ k) : levApart B = true := by
  unfold levApart
  rw [List.all_eq_true]
  intro j hj
  have hj := List.mem_range.1 hj
  by_cases e : j = 0
  · subst e; unfold apAt behindB; cases B[0]? <;> rfl
  · exact h j (by omega) (by omega)
theorem apart_snoc {B : List RunD} {k : Nat} (h : ∀ j, 1 ≤ j → j < k → apAt B j = true) (hk : apAt B k = true) : ∀ j, 1 ≤ j → j < k + 1 → apAt B j = true := by
  intro j h1 h2
  by_cases e : j = k
  · subst e; exact hk
  · exact h j h1 (by omega)
theorem implApart (lo : Nat) (a : Option Addr) (n c : Nat) (B : List RunD) (w : World) (h : RunsIn lo w a n c B) (hne : ∀ r ∈ B, 1 ≤ r.1.length) :
    Calls Tryz.prog 170 #[.slice a n c] w fun e w' => e = .returned (.bool (levApart B)) ∧ Below w.heap.size w w' := by
  have HLN : Hid (B.length = n) := h.length
  have HNE : Hid (∀ r ∈ B, 1 ≤ r.1.length) := hne
  have hr := h.room
  have hbg := h.big
  unfold maxLen at hbg
  have H : Hid (RunsIn lo w a n c B) := h
  clear h hne
  go_enter Tryz.func170, Tryz.ntmps170
  go_wp2
  go_loopw [3] (fun iv wr => ∃ i : Nat, 1 ≤ i ∧ i ≤ n + 1 ∧ iv = .int .i64 i ∧ Below w.heap.size w wr ∧ (∀ j, 1 ≤ j → j < i → apAt B j = true)) (fun iv _ => n - (intOf iv).toNat)
  case atStart => exact ⟨1, Nat.le_refl _, by omega, rfl, Below.refl _ _, fun j h1 h2 => absurd h2 (by omega)⟩
  case round =>
    obtain ⟨i, hi1, hi, rfl, hb, hw⟩ := hrel
    have HW : Hid (∀ j, 1 ≤ j → j < i → apAt B j = true) := hw
    have HB : Hid (Below w.heap.size w wr) := hb
    clear hw
    by_cases hin : i < n
    · have hinI : (i : Int) < (n : Int) := by omega
      have HKL : Hid (i < B.length) := by show i < B.length; rw [HLN.out]; exact hin
      obtain ⟨b, off, rfl, hbb⟩ := H.out.form (by omega)
      obtain ⟨L, m, s, ns, cs, hg, _, g0, _, hE⟩ := H.out.run hb i hin
      obtain ⟨Lp, mp, sp, np, cp, hp, _, p0, _, hEp⟩ := H.out.run hb (i - 1) (by omega)
      have l1 := HNE.out _ (List.mem_of_getElem? hg)
      have l2 := HNE.out _ (List.mem_of_getElem? hp)
      have hns := hE.1.length
      have hnp := hEp.1.length
      simp only at l1 l2
      obtain ⟨bs, os, rfl, _⟩ := hE.1.form (by omega)
      obtain ⟨bp, op, rfl, _⟩ := hEp.1.form (by omega)
      have HAT : Hid (apAt B i = Op.bytesLess (highK Lp).toList (lowK L).toList) := apAt_prev hg hi1 hp
      have zb := Nat.lt_of_lt_of_le hbb hb.size
      have CP : Hid (∀ w', Below wr.heap.size wr w' → Calls Tryz.prog 104 #[.slice (some ⟨bp, op, none⟩) np cp] w' fun r w'' => r = .returned (.agg #[.string (lowK Lp), .string (highK Lp)]) ∧ Below w'.heap.size w' w'') := fun w' k => implRange bp op np cp Lp w' (hEp.1.keep k) (by omega)
      have CS : Hid (∀ w', Below wr.heap.size wr w' → Calls Tryz.prog 104 #[.slice (some ⟨bs, os, none⟩) ns cs] w' fun r w'' => r = .returned (.agg #[.string (lowK L), .string (highK L)]) ∧ Below w'.heap.size w' w'') := fun w' k => implRange bs os ns cs L w' (hE.1.keep k) (by omega)
      have CE : Hid (∀ w', Below wr.heap.size wr w' → Calls Tryz.prog 132 #[.agg #[.string (lowK Lp), .string (highK Lp)], .agg #[.string (lowK L), .string (highK L)]] w' fun e w'' => e = .returned (.bool (Op.bytesLess (highK Lp).toList (lowK L).toList)) ∧ Below w'.heap.size w' w'') := fun w' _ => implAhead _ _ _ _ w'
      have HMK : Hid (∀ w', Below wr.heap.size wr w' → (w'.cell? ⟨b, off + i * 2, none⟩ = some (.slice (some ⟨bs, os, none⟩) ns cs) ∧ w'.cell? ⟨b, off + (i - 1) * 2, none⟩ = some (.slice (some ⟨bp, op, none⟩) np cp) ∧ b < w'.heap.size)) := fun w' kk => ⟨cell_later kk g0, cell_later kk p0, Nat.lt_of_lt_of_le zb kk.size⟩
      have k0 : Below wr.heap.size wr wr.drew := (Below.refl _ wr).drew
      have hj1 : (0 : Int) ≤ (i : Int) - 1 := by omega
      have hj2 : (i : Int) - 1 < (n : Int) := by omega
      have hj3 : (1 : Int) ≤ (i : Int) := by omega
      have hjt : ((i : Int) - 1).toNat = i - 1 := by omega
      have wj : IntKind.i64.wrap ((i : Int) - 1) = (i : Int) - 1 := by rw [IntWalk.i64_left]; unfold wrap64; omega
      clear hg hp hE hEp l1 l2 hns hnp g0 p0 zb hb hi1
      generalize Op.bytesLess (highK Lp).toList (lowK L).toList = O at HAT CE
      generalize lowK Lp = x1, highK Lp = x2, lowK L = x3, highK L = x4 at CP CS CE
      cases O with
      | true =>
        go_wp2_with fail
        refine wp_region_held_drew (S := (fun w' => w'.cell? ⟨b, off + i * 2, none⟩ = some (.slice (some ⟨bs, os, none⟩) ns cs) ∧ w'.cell? ⟨b, off + (i - 1) * 2, none⟩ = some (.slice (some ⟨bp, op, none⟩) np cp) ∧ b < w'.heap.size)) (by kernel_rfl) (HMK.out _ k0) (fun hHeld => ?_)
        refine tkL 0 hHeld ?_; try go_frame
        refine tkL 1 hHeld ?_; try go_frame
        refine tkL 2 hHeld ?_; try go_frame
        refine tkL 3 hHeld ?_; try go_frame
        refine tkL 4 hHeld ?_; try go_frame
        refine tkL 5 hHeld ?_; try go_frame
        refine tkL 7 hHeld ?_; try go_frame
        refine tkL 8 hHeld ?_; try go_frame
        refine tkL 9 hHeld ?_; try go_frame
        refine tkL 10 hHeld ?_; try go_frame
        refine tkL 11 hHeld ?_; try go_frame
        refine wpAnyH_ready (rs := [6]) (by kernel_rfl) (by simp) ?_
        refine consL rfl (fun K hK => ?_) AllReadyH.nil
        go_simp
        refine (CP.out _ k0).mono ?_
        rintro e wk1 ⟨rfl, bk1⟩
        have k1 : Below wr.heap.size wr wk1 := k0.trans (bk1.mono k0.size)
        go_wp2_with fail
        refine hK.out _ _ (HMK.out _ k1) (fun hHeld => ?_)
        clear hK K
        try go_frame
        refine wpAnyH_ready (rs := [12]) (by kernel_rfl) (by simp) ?_
        refine consL rfl (fun K hK => ?_) AllReadyH.nil
        go_simp
        refine (CS.out _ k1).mono ?_
        rintro e wk2 ⟨rfl, bk2⟩
        have k2 : Below wr.heap.size wr wk2 := k1.trans (bk2.mono k1.size)
        go_wp2_with fail
        refine hK.out _ _ (HMK.out _ k2) (fun hHeld => ?_)
        clear hK K
        try go_frame
        refine wpAnyH_ready (rs := [13]) (by kernel_rfl) (by simp) ?_
        refine consL rfl (fun K hK => ?_) AllReadyH.nil
        go_simp
        refine (CE.out _ k2).mono ?_
        rintro e wk3 ⟨rfl, bk3⟩
        have k3 : Below wr.heap.size wr wk3 := k2.trans (bk3.mono k2.size)
        go_wp2_with fail
        refine hK.out _ _ (HMK.out _ k3) (fun hHeld => ?_)
        clear hK K
        try go_frame
        refine tkL 14 hHeld ?_; try go_frame
        refine wpAnyH_done (by kernel_rfl) ?_ _
        have KY : Hid (Below w.heap.size w wk3) := HB.out.trans (k3.mono HB.out.size)
        clear k0 k1 k2 k3 bk1 bk2 bk3 HMK CP CS CE hHeld
        go_wp2
        go_roundw
        case rel => exact ⟨i + 1, by omega, by omega, by go_num, KY.out, apart_snoc HW.out HAT.out⟩
        case measure => simp [intOf]; omega
      | false =>
        go_wp2_with fail
        refine wp_region_held_drew (S := (fun w' => w'.cell? ⟨b, off + i * 2, none⟩ = some (.slice (some ⟨bs, os, none⟩) ns cs) ∧ w'.cell? ⟨b, off + (i - 1) * 2, none⟩ = some (.slice (some ⟨bp, op, none⟩) np cp) ∧ b < w'.heap.size)) (by kernel_rfl) (HMK.out _ k0) (fun hHeld => ?_)
        refine tkL 0 hHeld ?_; try go_frame
        refine tkL 1 hHeld ?_; try go_frame
        refine tkL 2 hHeld ?_; try go_frame
        refine tkL 3 hHeld ?_; try go_frame
        refine tkL 4 hHeld ?_; try go_frame
        refine tkL 5 hHeld ?_; try go_frame
        refine tkL 7 hHeld ?_; try go_frame
        refine tkL 8 hHeld ?_; try go_frame
        refine tkL 9 hHeld ?_; try go_frame
        refine tkL 10 hHeld ?_; try go_frame
        refine tkL 11 hHeld ?_; try go_frame
        refine wpAnyH_ready (rs := [6]) (by kernel_rfl) (by simp) ?_
        refine consL rfl (fun K hK => ?_) AllReadyH.nil
        go_simp
        refine (CP.out _ k0).mono ?_
        rintro e wk1 ⟨rfl, bk1⟩
        have k1 : Below wr.heap.size wr wk1 := k0.trans (bk1.mono k0.size)
        go_wp2_with fail
        refine hK.out _ _ (HMK.out _ k1) (fun hHeld => ?_)
        clear hK K
        try go_frame
        refine wpAnyH_ready (rs := [12]) (by kernel_rfl) (by simp) ?_
        refine consL rfl (fun K hK => ?_) AllReadyH.nil
        go_simp
        refine (CS.out _ k1).mono ?_
        rintro e wk2 ⟨rfl, bk2⟩
        have k2 : Below wr.heap.size wr wk2 := k1.trans (bk2.mono k1.size)
        go_wp2_with fail
        refine hK.out _ _ (HMK.out _ k2) (fun hHeld => ?_)
        clear hK K
        try go_frame
        refine wpAnyH_ready (rs := [13]) (by kernel_rfl) (by simp) ?_
        refine consL rfl (fun K hK => ?_) AllReadyH.nil
        go_simp
        refine (CE.out _ k2).mono ?_
        rintro e wk3 ⟨rfl, bk3⟩
        have k3 : Below wr.heap.size wr wk3 := k2.trans (bk3.mono k2.size)
        go_wp2_with fail
        refine hK.out _ _ (HMK.out _ k3) (fun hHeld => ?_)
        clear hK K
        try go_frame
        refine tkL 14 hHeld ?_; try go_frame
        refine wpAnyH_done (by kernel_rfl) ?_ _
        have KY : Hid (Below w.heap.size w wk3) := HB.out.trans (k3.mono HB.out.size)
        clear k0 k1 k2 k3 bk1 bk2 bk3 HMK CP CS CE hHeld
        go_wp2
        go_ret
        exact ⟨ret_bool (apart_no HKL.out HAT.out).symm, KY.out⟩
    · have hinI : ¬ (i : Int) < (n : Int) := by omega
      have HC : Hid (levApart B = true) := apart_all HW.out (by rw [HLN.out]; omega)
      go_wp2
      go_ret
      exact ⟨ret_bool HC.out.symm, HB.out⟩
end Go.Proofs.YtlmgojlffgkciaaGreat

namespace Go.Proofs.YtlmgojlffgkciaaGreat
open Go.RowKit
set_option maxRecDepth 100000
set_option maxHeartbeats 4000000
def badB (B : List RunD) : Bool := B.any (fun r => !runB r.1 r.2)
theorem bad_yes {B : List RunD} {i : Nat} {r : RunD} (h : B[i]? = some r) (hr : runB r.1 r.2 = false) : badB B = true := by
  unfold badB
  rw [List.any_eq_true]
  exact ⟨r, List.mem_of_getElem? h, by rw [hr]; rfl⟩
theorem bad_no {B : List RunD} {k : Nat} (h : ∀ j r, j < k → B[j]? = some r → runB r.1 r.2 = true) (hk : B.length ≤ k) : badB B = false := by
  unfold badB
  rw [List.any_eq_false]
  intro r hr
  obtain ⟨j, hj, e⟩ := List.getElem_of_mem hr
  rw [h j r (by omega) (by rw [List.getElem?_eq_getElem hj, e])]
  simp
theorem bad_all {B : List RunD} (h : badB B = false) : ∀ r ∈ B, runB r.1 r.2 = true := by
  intro r hr
  unfold badB at h
  rw [List.any_eq_false] at h
  simpa using h r hr
theorem indexBad (lo : Nat) (a : Option Addr) (n c : Nat) (B : List RunD) (w : World) (h : RunsIn lo w a n c B) :
    Calls Tryz.prog 193 #[.slice a n c, .func (.func 169) #[] #[]] w fun e w' => (∃ z : Int, e = .returned (.int .i64 z) ∧ decide (0 ≤ z) = badB B) ∧ Below w.heap.size w w' := by
  have HLN : Hid (B.length = n) := h.length
  have hr := h.room
  have hbg := h.big
  unfold maxLen at hbg
  have H : Hid (RunsIn lo w a n c B) := h
  clear h
  go_enter Tryz.func193, Tryz.ntmps193
  go_wp2
  go_loopw [8] (fun iv wr => ∃ i : Nat, i ≤ n ∧ iv = .int .i64 i ∧ Below w.heap.size w wr ∧ (∀ j r, j < i → B[j]? = some r → runB r.1 r.2 = true)) (fun iv _ => n - (intOf iv).toNat)
  case atStart => exact ⟨0, Nat.zero_le _, rfl, Below.refl _ _, fun j r hj => absurd hj (Nat.not_lt_zero _)⟩
  case round =>
    obtain ⟨i, hi, rfl, hb, hw⟩ := hrel
    have HW : Hid (∀ j r, j < i → B[j]? = some r → runB r.1 r.2 = true) := hw
    have HB : Hid (Below w.heap.size w wr) := hb
    clear hw
    by_cases hin : i < n
    · have hinI : (i : Int) < (n : Int) := by omega
      obtain ⟨b, off, rfl, hbb⟩ := H.out.form (by omega)
      obtain ⟨L, m, s, ns, cs, hg, _, g0, g1, hE⟩ := H.out.run hb i hin
      have HG : Hid (B[i]? = some (L, m)) := hg
      have HE : Hid (EntsAt wr s ns cs L) := hE.1
      have zb := Nat.lt_of_lt_of_le hbb hb.size
      clear hg hb hE
      obtain ⟨O, hO⟩ : ∃ O, O = runB L m := ⟨_, rfl⟩
      go_wp2_with fail
      refine (implNoRun m s ns cs L wr HE.out).mono ?_
      rw [← hO]
      rintro e w1 ⟨rfl, hb1⟩
      have K1 : Hid (Below w.heap.size w w1) := HB.out.trans (hb1.mono HB.out.size)
      clear hb1
      cases hOv : O with
      | false =>
        have HN : Hid (badB B = true) := bad_yes HG.out (by show runB L m = false; rw [← hO, hOv])
        go_wp2
        go_ret
        exact ⟨⟨(i : Int), rfl, by rw [HN.out]; simp⟩, K1.out⟩
      | true =>
        have HN : Hid (∀ j r, j < i + 1 → B[j]? = some r → runB r.1 r.2 = true) := by
          intro j r hj hr
          by_cases e : j = i
          · subst e; rw [HG.out] at hr; cases hr; show runB L m = true; rw [← hO, hOv]
          · exact HW.out j r (by omega) hr
        go_wp2
        go_roundw
        case rel => exact ⟨i + 1, by omega, by go_num, K1.out, HN.out⟩
        case measure => simp [intOf]; omega
    · have hinI : ¬ (i : Int) < (n : Int) := by omega
      have HC : Hid (badB B = false) := bad_no HW.out (by rw [HLN.out]; omega)
      go_wp2
      go_ret
      exact ⟨⟨-1, rfl, by rw [HC.out]; rfl⟩, HB.out⟩
theorem containsBad (lo : Nat) (a : Option Addr) (n c : Nat) (B : List RunD) (w : World) (h : RunsIn lo w a n c B) :
    Calls Tryz.prog 168 #[.slice a n c, .func (.func 169) #[] #[]] w fun e w' => e = .returned (.bool (badB B)) ∧ Below w.heap.size w w' := by
  go_enter Tryz.func168, Tryz.ntmps168
  go_wp2_with fail
  refine (indexBad lo a n c B w h).mono ?_
  rintro e w1 ⟨⟨z, rfl, hz⟩, hb1⟩
  have HZ : Hid (decide (0 ≤ z) = badB B) := hz
  clear hz
  go_wp2
  go_ret
  exact ⟨ret_bool HZ.out, hb1⟩
theorem implMost0 (w : World) : Calls Tryz.prog 167 #[.int .i64 0] w fun e w' => e = .returned (.int .i64 4) ∧ w' = w := by
  go_enter Tryz.func167, Tryz.ntmps167
  go_wp2
  go_ret
  exact ⟨rfl, rfl⟩
theorem implMost1 (k : Nat) (w : World) (h : 1 ≤ k) : Calls Tryz.prog 167 #[.int .i64 (k : Int)] w fun e w' => e = .returned (.int .i64 8) ∧ w' = w := by
  have h1 : ¬ (k : Int) = 0 := by omega
  have h2 : ¬ k = 0 := by omega
  go_enter Tryz.func167, Tryz.ntmps167
  go_wp2
  go_ret
  exact ⟨rfl, rfl⟩
end Go.Proofs.YtlmgojlffgkciaaGreat

namespace Go.Proofs.YtlmgojlffgkciaaGreat
open Go.RowKit
set_option maxRecDepth 100000
set_option maxHeartbeats 16000000
def ok0 (B : List RunD) : Bool := decide ((B.length : Int) ≤ 4) && !badB B
def ok1 (B : List RunD) : Bool := decide ((B.length : Int) ≤ 8) && (!badB B && levApart B)
def levelsI (A B C : List RunD) : Bool := ok0 A && (ok1 B && ok1 C)
theorem idx_0 (w : World) (a0 a1 a2 : Option Addr) (n0 c0 n1 c1 n2 c2 : Nat) : (Instr.index 65 (.agg #[.slice a0 n0 c0, .slice a1 n1 c1, .slice a2 n2 c2]) (.int .i64 0)).run Tryz.prog w = .ok (.slice a0 n0 c0) w := by
  simp [Instr.index, run_underlying Tryz.underlying65, asIntOf, go_sem, Tryz.isAgg64, Tryz.sizeOf64, part]
theorem idx_1 (w : World) (a0 a1 a2 : Option Addr) (n0 c0 n1 c1 n2 c2 : Nat) : (Instr.index 65 (.agg #[.slice a0 n0 c0, .slice a1 n1 c1, .slice a2 n2 c2]) (.int .i64 1)).run Tryz.prog w = .ok (.slice a1 n1 c1) w := by
  simp [Instr.index, run_underlying Tryz.underlying65, asIntOf, go_sem, Tryz.isAgg64, Tryz.sizeOf64, part]
theorem idx_2 (w : World) (a0 a1 a2 : Option Addr) (n0 c0 n1 c1 n2 c2 : Nat) : (Instr.index 65 (.agg #[.slice a0 n0 c0, .slice a1 n1 c1, .slice a2 n2 c2]) (.int .i64 2)).run Tryz.prog w = .ok (.slice a2 n2 c2) w := by
  simp [Instr.index, run_underlying Tryz.underlying65, asIntOf, go_sem, Tryz.isAgg64, Tryz.sizeOf64, part]
theorem implLevels (lo : Nat) (q : Int) (am ak : Option Addr) (nm cm nk ck : Nat) (a0 a1 a2 : Option Addr) (n0 c0 n1 c1 n2 c2 : Nat) (A B C : List RunD) (w : World) (h0 : RunsIn lo w a0 n0 c0 A) (h1 : RunsIn lo w a1 n1 c1 B) (h2 : RunsIn lo w a2 n2 c2 C) :
    Calls Tryz.prog 128 #[.agg #[.int .i64 q, .slice am nm cm, .slice a0 n0 c0, .slice a1 n1 c1, .slice a2 n2 c2, .slice ak nk ck]] w fun e w' => e = .returned (.bool (levelsI A B C)) ∧ Below w.heap.size w w' := by
  have HR0 : Hid (RunsIn lo w a0 n0 c0 A) := h0
  have HR1 : Hid (RunsIn lo w a1 n1 c1 B) := h1
  have HR2 : Hid (RunsIn lo w a2 n2 c2 C) := h2
  have HN0 : Hid (A.length = n0) := h0.length
  have HN1 : Hid (B.length = n1) := h1.length
  have HN2 : Hid (C.length = n2) := h2.length
  clear h0 h1 h2
  go_enter Tryz.func128, Tryz.ntmps128
  go_upto_region 1 with fail
  obtain ⟨W, hW⟩ : ∃ W, W = w.alloc (.cells #[.int .i64 q, .slice am nm cm, .slice a0 n0 c0, .slice a1 n1 c1, .slice a2 n2 c2, .slice ak nk ck] 67) := ⟨_, rfl⟩
  have kW : Below w.heap.size w W := by rw [hW]; exact (Below.refl _ _).alloc (Nat.le_refl _) _
  have x2 : W.cell? ⟨w.heap.size, 2, none⟩ = some (.slice a0 n0 c0) := by rw [hW]; simp
  have x3 : W.cell? ⟨w.heap.size, 3, none⟩ = some (.slice a1 n1 c1) := by rw [hW]; simp
  have x4 : W.cell? ⟨w.heap.size, 4, none⟩ = some (.slice a2 n2 c2) := by rw [hW]; simp
  have zX := World.block_lt_of_cell? _ _ x2
  have HKW : Hid (∀ wr, Below W.heap.size W wr → Below w.heap.size w wr) := fun wr k => kW.trans (k.mono kW.size)
  rw [← hW]
  clear hW kW
  go_wp2
  go_loopw [7] (fun iv wr => ∃ i : Nat, i ≤ 3 ∧ iv = .int .i64 i ∧ Below W.heap.size W wr ∧ (1 ≤ i → ok0 A = true) ∧ (2 ≤ i → ok1 B = true) ∧ (3 ≤ i → ok1 C = true)) (fun iv _ => 3 - (intOf iv).toNat)
  case atStart => exact ⟨0, by omega, rfl, Below.refl _ _, fun h => absurd h (by omega), fun h => absurd h (by omega), fun h => absurd h (by omega)⟩
  case round =>
    obtain ⟨i, hi, rfl, hb, hw0, hw1, hw2⟩ := hrel
    have HB : Hid (Below W.heap.size W wr) := hb
    have HW0 : Hid (1 ≤ i → ok0 A = true) := hw0
    have HW1 : Hid (2 ≤ i → ok1 B = true) := hw1
    have HW2 : Hid (3 ≤ i → ok1 C = true) := hw2
    clear hb hw0 hw1 hw2
    have hcase : i = 0 ∨ i = 1 ∨ i = 2 ∨ i = 3 := by omega
    rcases hcase with hI | hI | hI | hI
    · skip
      subst hI
      by_cases hl : (4 : Int) < (n0 : Int)
      · have HN : Hid (levelsI A B C = false) := by
          have h1 : decide ((A.length : Int) ≤ 4) = false := decide_eq_false (by have := HN0.out; omega)
          show levelsI A B C = false
          unfold levelsI ok0 ok1
          rw [h1]
          simp
        go_wp2_with fail
        rw [idx_0]
        go_wp2_with fail
        refine (implMost0 wr).mono ?_
        rintro e w' ⟨rfl, rfl⟩
        go_wp2
        go_ret
        exact ⟨ret_bool HN.out.symm, HKW.out _ HB.out⟩
      have HL : Hid (decide ((A.length : Int) ≤ 4) = true) := decide_eq_true (by have := HN0.out; omega)
      obtain ⟨O, hO⟩ : ∃ O, O = badB A := ⟨_, rfl⟩
      go_wp2_with fail
      rw [idx_0]
      go_wp2_with fail
      refine (implMost0 wr).mono ?_
      rintro e w' ⟨rfl, rfl⟩
      go_wp2_with fail
      refine (containsBad lo a0 n0 c0 A _ (HR0.out.keep (HKW.out _ HB.out))).mono ?_
      rw [← hO]
      rintro e w1 ⟨rfl, hb1⟩
      have K1 : Hid (Below W.heap.size W w1) := HB.out.trans (hb1.mono HB.out.size)
      clear hb1
      cases hOv : O with
      | true =>
        have HN : Hid (levelsI A B C = false) := by
          have h1 : badB A = true := by rw [← hO, hOv]
          show levelsI A B C = false
          unfold levelsI ok0 ok1
          rw [h1]
          simp
        go_wp2
        go_ret
        exact ⟨ret_bool HN.out.symm, HKW.out _ K1.out⟩
      | false =>
        have HN : Hid (ok0 A = true) := by
          have h1 : badB A = false := by rw [← hO, hOv]
          show ok0 A = true
          unfold ok0
          rw [HL.out, h1]
          rfl
        go_wp2
        go_roundw
        case rel => exact ⟨1, by omega, rfl, K1.out, fun _ => HN.out, fun h => absurd h (by omega), fun h => absurd h (by omega)⟩
        case measure => simp [intOf]
    · skip
      subst hI
      by_cases hl : (8 : Int) < (n1 : Int)
      · have HN : Hid (levelsI A B C = false) := by
          have h1 : decide ((B.length : Int) ≤ 8) = false := decide_eq_false (by have := HN1.out; omega)
          show levelsI A B C = false
          unfold levelsI ok0 ok1
          rw [h1]
          simp
        go_wp2_with fail
        rw [idx_1]
        go_wp2_with fail
        refine (implMost1 1 wr (by omega)).mono ?_
        rintro e w' ⟨rfl, rfl⟩
        go_wp2
        go_ret
        exact ⟨ret_bool HN.out.symm, HKW.out _ HB.out⟩
      have HL : Hid (decide ((B.length : Int) ≤ 8) = true) := decide_eq_true (by have := HN1.out; omega)
      obtain ⟨O, hO⟩ : ∃ O, O = badB B := ⟨_, rfl⟩
      go_wp2_with fail
      rw [idx_1]
      go_wp2_with fail
      refine (implMost1 1 wr (by omega)).mono ?_
      rintro e w' ⟨rfl, rfl⟩
      go_wp2_with fail
      refine (containsBad lo a1 n1 c1 B _ (HR1.out.keep (HKW.out _ HB.out))).mono ?_
      rw [← hO]
      rintro e w1 ⟨rfl, hb1⟩
      have K1 : Hid (Below W.heap.size W w1) := HB.out.trans (hb1.mono HB.out.size)
      clear hb1
      cases hOv : O with
      | true =>
        have HN : Hid (levelsI A B C = false) := by
          have h1 : badB B = true := by rw [← hO, hOv]
          show levelsI A B C = false
          unfold levelsI ok0 ok1
          rw [h1]
          simp
        go_wp2
        go_ret
        exact ⟨ret_bool HN.out.symm, HKW.out _ K1.out⟩
      | false =>
        have HBF : Hid (badB B = false) := by show _ = _; rw [← hO, hOv]
        obtain ⟨G, hG⟩ : ∃ G, G = levApart B := ⟨_, rfl⟩
        go_wp2_with fail
        refine (implApart lo a1 n1 c1 B _ (HR1.out.keep (HKW.out _ K1.out)) (fun r hr => (runB_parts (bad_all HBF.out r hr)).1)).mono ?_
        rw [← hG]
        rintro e w2 ⟨rfl, hb2⟩
        have K2 : Hid (Below W.heap.size W w2) := K1.out.trans (hb2.mono K1.out.size)
        clear hb2
        cases hGv : G with
        | false =>
          have HN : Hid (levelsI A B C = false) := by
            have h1 : levApart B = false := by rw [← hG, hGv]
            show levelsI A B C = false
            unfold levelsI ok0 ok1
            rw [h1]
            simp
          go_wp2
          go_ret
          exact ⟨ret_bool HN.out.symm, HKW.out _ K2.out⟩
        | true =>
          have HN : Hid (ok1 B = true) := by
            have h1 : levApart B = true := by rw [← hG, hGv]
            show ok1 B = true
            unfold ok1
            rw [HL.out, HBF.out, h1]
            rfl
          go_wp2
          go_roundw
          case rel => exact ⟨2, by omega, rfl, K2.out, fun _ => HW0.out (by omega), fun _ => HN.out, fun h => absurd h (by omega)⟩
          case measure => simp [intOf]
    · skip
      subst hI
      by_cases hl : (8 : Int) < (n2 : Int)
      · have HN : Hid (levelsI A B C = false) := by
          have h1 : decide ((C.length : Int) ≤ 8) = false := decide_eq_false (by have := HN2.out; omega)
          show levelsI A B C = false
          unfold levelsI ok0 ok1
          rw [h1]
          simp
        go_wp2_with fail
        rw [idx_2]
        go_wp2_with fail
        refine (implMost1 2 wr (by omega)).mono ?_
        rintro e w' ⟨rfl, rfl⟩
        go_wp2
        go_ret
        exact ⟨ret_bool HN.out.symm, HKW.out _ HB.out⟩
      have HL : Hid (decide ((C.length : Int) ≤ 8) = true) := decide_eq_true (by have := HN2.out; omega)
      obtain ⟨O, hO⟩ : ∃ O, O = badB C := ⟨_, rfl⟩
      go_wp2_with fail
      rw [idx_2]
      go_wp2_with fail
      refine (implMost1 2 wr (by omega)).mono ?_
      rintro e w' ⟨rfl, rfl⟩
      go_wp2_with fail
      refine (containsBad lo a2 n2 c2 C _ (HR2.out.keep (HKW.out _ HB.out))).mono ?_
      rw [← hO]
      rintro e w1 ⟨rfl, hb1⟩
      have K1 : Hid (Below W.heap.size W w1) := HB.out.trans (hb1.mono HB.out.size)
      clear hb1
      cases hOv : O with
      | true =>
        have HN : Hid (levelsI A B C = false) := by
          have h1 : badB C = true := by rw [← hO, hOv]
          show levelsI A B C = false
          unfold levelsI ok0 ok1
          rw [h1]
          simp
        go_wp2
        go_ret
        exact ⟨ret_bool HN.out.symm, HKW.out _ K1.out⟩
      | false =>
        have HBF : Hid (badB C = false) := by show _ = _; rw [← hO, hOv]
        obtain ⟨G, hG⟩ : ∃ G, G = levApart C := ⟨_, rfl⟩
        go_wp2_with fail
        refine (implApart lo a2 n2 c2 C _ (HR2.out.keep (HKW.out _ K1.out)) (fun r hr => (runB_parts (bad_all HBF.out r hr)).1)).mono ?_
        rw [← hG]
        rintro e w2 ⟨rfl, hb2⟩
        have K2 : Hid (Below W.heap.size W w2) := K1.out.trans (hb2.mono K1.out.size)
        clear hb2
        cases hGv : G with
        | false =>
          have HN : Hid (levelsI A B C = false) := by
            have h1 : levApart C = false := by rw [← hG, hGv]
            show levelsI A B C = false
            unfold levelsI ok0 ok1
            rw [h1]
            simp
          go_wp2
          go_ret
          exact ⟨ret_bool HN.out.symm, HKW.out _ K2.out⟩
        | true =>
          have HN : Hid (ok1 C = true) := by
            have h1 : levApart C = true := by rw [← hG, hGv]
            show ok1 C = true
            unfold ok1
            rw [HL.out, HBF.out, h1]
            rfl
          go_wp2
          go_roundw
          case rel => exact ⟨3, by omega, rfl, K2.out, fun _ => HW0.out (by omega), fun _ => HW1.out (by omega), fun _ => HN.out⟩
          case measure => simp [intOf]
    · subst hI
      have HC : Hid (levelsI A B C = true) := by
        show levelsI A B C = true
        unfold levelsI
        rw [HW0.out (by omega), HW1.out (by omega), HW2.out (by omega)]
        rfl
      go_wp2
      go_ret
      exact ⟨ret_bool HC.out.symm, HKW.out _ HB.out⟩
end Go.Proofs.YtlmgojlffgkciaaGreat

namespace Go.Proofs.YtlmgojlffgkciaaGreat
open Go.RowKit
def overE (x y : EntD) : Prop := x.1 = y.1 → y.2.1 < x.2.1
theorem over_clash (x y : EntD) : (!clash x y) = true ↔ overE x y := by
  unfold clash overE
  by_cases h : x.1 = y.1
  · simp [h]
  · simp [h]
def Ov (A B : List EntD) : Prop := ∀ x ∈ A, ∀ y ∈ B, overE x y
theorem above_ov {A B : List EntD} : aboveB A B = true ↔ Ov A B := by
  unfold aboveB Ov
  simp only [List.all_eq_true, over_clash]
theorem aged_ov {P : List (List EntD)} : agedB P = true ↔ P.Pairwise Ov := by
  rw [List.pairwise_iff_getElem]
  unfold agedB
  simp only [List.all_eq_true, List.mem_range]
  constructor
  · intro h i j hi hj hij
    have := h i hi j hj
    rw [decide_eq_true hij, above2_at (List.getElem?_eq_getElem hi) (List.getElem?_eq_getElem hj)] at this
    exact above_ov.1 (by simpa using this)
  · intro h i hi j hj
    by_cases hij : i < j
    · rw [decide_eq_true hij, above2_at (List.getElem?_eq_getElem hi) (List.getElem?_eq_getElem hj), above_ov.2 (h i j hi hj hij)]; rfl
    · rw [decide_eq_false hij]; rfl
def newerB (q : Int) : List EntD → Bool
  | [] => true
  | e :: L => newerB q L && (decide (1 ≤ e.2.1) && (decide (e.2.1 ≤ q) && L.all (fun y => !clash e y)))
theorem newer_iff (q : Int) (L : List EntD) : newerB q L = true ↔ L.Pairwise overE ∧ ∀ e ∈ L, 1 ≤ e.2.1 ∧ e.2.1 ≤ q := by
  induction L with
  | nil => simp [newerB]
  | cons e L ih =>
    simp only [newerB, Bool.and_eq_true, ih, decide_eq_true_eq, List.all_eq_true, over_clash, List.pairwise_cons, List.mem_cons]
    constructor
    · rintro ⟨⟨h1, h2⟩, h3, h4, h5⟩
      refine ⟨⟨h5, h1⟩, ?_⟩
      rintro x (rfl | hx)
      · exact ⟨h3, h4⟩
      · exact h2 x hx
    · rintro ⟨⟨h5, h1⟩, h2⟩
      exact ⟨⟨h1, fun x hx => h2 x (.inr hx)⟩, (h2 e (.inl rfl)).1, (h2 e (.inl rfl)).2, h5⟩
def topQ : List EntD → ByteArray → Int
  | [], _ => 0
  | e :: L, k => if e.1 = k then e.2.1 else topQ L k
theorem top_cons (e : EntD) (L : List EntD) (k : ByteArray) : topQ (e :: L) k = if e.1 = k then e.2.1 else topQ L k := rfl
theorem top_is {q : Int} (e : EntD) : ∀ L : List EntD, newerB q L = true → (topQ L e.1 < e.2.1 ↔ (1 ≤ e.2.1 ∧ ∀ y ∈ L, overE e y))
  | [], _ => by simp [topQ]; omega
  | f :: L, h => by
    have hn := (newer_iff q (f :: L)).1 h
    rw [List.pairwise_cons] at hn
    have ih := top_is e L (by simp only [newerB, Bool.and_eq_true] at h; exact h.1)
    rw [top_cons]
    by_cases hk : f.1 = e.1
    · rw [if_pos hk]
      have hf := (hn.2 f (List.mem_cons_self ..)).1
      constructor
      · intro h1
        refine ⟨by omega, ?_⟩
        intro y hy
        rw [List.mem_cons] at hy
        rcases hy with rfl | hy
        · intro _; exact h1
        · intro e1
          have := hn.1.1 y hy (hk.trans e1)
          omega
      · rintro ⟨_, h2⟩
        exact h2 f (List.mem_cons_self ..) hk.symm
    · rw [if_neg hk, ih]
      constructor
      · rintro ⟨h1, h2⟩
        refine ⟨h1, ?_⟩
        intro y hy
        rw [List.mem_cons] at hy
        rcases hy with rfl | hy
        · intro e1; exact absurd e1.symm hk
        · exact h2 y hy
      · rintro ⟨h1, h2⟩
        exact ⟨h1, fun y hy => h2 y (List.mem_cons_of_mem _ hy)⟩
theorem newer_step {q : Int} {e : EntD} {L : List EntD} (h : newerB q L = true) (h1 : topQ L e.1 < e.2.1) (h2 : e.2.1 ≤ q) : newerB q (e :: L) = true := by
  have := (top_is e L h).1 h1
  simp only [newerB, h, Bool.true_and, Bool.and_eq_true, decide_eq_true_eq, List.all_eq_true, over_clash]
  exact ⟨this.1, h2, this.2⟩
theorem newer_stop {q : Int} {e : EntD} {L A : List EntD} (h : ¬ (topQ L e.1 < e.2.1 ∧ e.2.1 ≤ q)) : newerB q (A ++ e :: L) = false := by
  induction A with
  | nil =>
    rw [List.nil_append, Bool.eq_false_iff]
    intro h1
    have hL : newerB q L = true := by simp only [newerB, Bool.and_eq_true] at h1; exact h1.1
    have h3 := (newer_iff q _).1 h1
    rw [List.pairwise_cons] at h3
    have h4 := h3.2 e (List.mem_cons_self ..)
    exact h ⟨(top_is e L hL).2 ⟨h4.1, h3.1.1⟩, h4.2⟩
  | cons a A ih =>
    rw [List.cons_append, newerB, ih]
    rfl
theorem right_over {L : List EntD} (h : rightB L = true) : L.Pairwise overE := by
  rw [List.pairwise_iff_getElem]
  intro i j hi hj hij hk
  rcases lessB_true (right_less h hij (List.getElem?_eq_getElem hi) (List.getElem?_eq_getElem hj)) with h1 | h1
  · rw [hk, bless_self] at h1; cases h1
  · exact h1.2
theorem right_one {L : List EntD} (h : rightB L = true) : ∀ e ∈ L, 1 ≤ e.2.1 := by
  intro e he
  obtain ⟨j, hj, rfl⟩ := List.getElem_of_mem he
  exact (entB_seq (right_ent h (List.getElem?_eq_getElem hj))).1
theorem right_low {L : List EntD} (h : rightB L = true) {e : EntD} (he : e ∈ L) : lowK L = e.1 ∨ Op.bytesLess (lowK L).toList e.1.toList = true := by
  obtain ⟨j, hj, rfl⟩ := List.getElem_of_mem he
  obtain ⟨f, hf, hl⟩ := lowK_at (L := L) (by omega)
  rw [hl]
  by_cases h0 : j = 0
  · subst h0
    rw [List.getElem?_eq_getElem hj] at hf
    cases hf
    exact .inl rfl
  · rcases lessB_true (right_less h (Nat.pos_of_ne_zero h0) hf (List.getElem?_eq_getElem hj)) with h1 | h1
    · exact .inr (by rw [ByteArray.toList_eq, ByteArray.toList_eq]; exact h1)
    · exact .inl h1.1
theorem right_high {L : List EntD} (h : rightB L = true) {e : EntD} (he : e ∈ L) : e.1 = highK L ∨ Op.bytesLess e.1.toList (highK L).toList = true := by
  obtain ⟨j, hj, rfl⟩ := List.getElem_of_mem he
  obtain ⟨f, hf, hl⟩ := highK_at (L := L) (by omega)
  rw [hl]
  by_cases h0 : j = L.length - 1
  · subst h0
    rw [List.getElem?_eq_getElem hj] at hf
    cases hf
    exact .inl rfl
  · rcases lessB_true (right_less h (by omega : j < L.length - 1) (List.getElem?_eq_getElem hj) hf) with h1 | h1
    · exact .inr (by rw [ByteArray.toList_eq, ByteArray.toList_eq]; exact h1)
    · exact .inl h1.1
theorem right_ends {L : List EntD} (h : rightB L = true) (hn : 1 ≤ L.length) : lowK L = highK L ∨ Op.bytesLess (lowK L).toList (highK L).toList = true := by
  obtain ⟨f, hf, hl⟩ := highK_at hn
  rw [hl]
  exact right_low h (List.mem_of_getElem? hf)
theorem apart_at {B : List RunD} (h : levApart B = true) {i : Nat} {p r : RunD} (hp : B[i]? = some p) (hr : B[i + 1]? = some r) : aheadB p.1 r.1 = true := by
  unfold levApart at h
  have := (List.all_eq_true.1 h) (i + 1) (List.mem_range.2 (List.getElem?_eq_some_iff.1 hr).1)
  unfold apAt behindB at this
  simp only [hr, hp] at this
  exact this
theorem apart_far {B : List RunD} (h : levApart B = true) (hok : ∀ r ∈ B, runB r.1 r.2 = true) : ∀ (d i : Nat) {p r : RunD}, B[i]? = some p → B[i + 1 + d]? = some r → Op.bytesLess (highK p.1).toList (lowK r.1).toList = true
  | 0, i, p, r, hp, hr => apart_at h hp hr
  | d + 1, i, p, r, hp, hr => by
    obtain ⟨hl, _⟩ := List.getElem?_eq_some_iff.1 hr
    have hm : B[i + 1 + d]? = some (B[i + 1 + d]'(by omega)) := List.getElem?_eq_getElem _
    have h1 := apart_far h hok d i hp hm
    have h2 : aheadB (B[i + 1 + d]'(by omega)).1 r.1 = true := apart_at h hm hr
    have h3 := runB_parts (hok _ (List.mem_of_getElem? hm))
    unfold aheadB at h2
    rcases right_ends h3.2.2.1 h3.1 with e | e
    · rw [e] at h1; exact bless_trans _ _ _ h1 h2
    · exact bless_trans _ _ _ (bless_trans _ _ _ h1 e) h2
theorem apart_ov {B : List RunD} (h : levApart B = true) (hok : ∀ r ∈ B, runB r.1 r.2 = true) : (B.reverse.map (·.1)).Pairwise Ov := by
  rw [List.pairwise_map, List.pairwise_reverse, List.pairwise_iff_getElem]
  intro i j hi hj hij x hx y hy hk
  exfalso
  have h1 := apart_far h hok (j - i - 1) i (List.getElem?_eq_getElem hi) (by rw [show i + 1 + (j - i - 1) = j by omega]; exact List.getElem?_eq_getElem hj)
  have hi3 := (runB_parts (hok _ (List.getElem_mem hi))).2.2.1
  have hj3 := (runB_parts (hok _ (List.getElem_mem hj))).2.2.1
  have h2 : Op.bytesLess y.1.toList (lowK B[j].1).toList = true := by
    rcases right_high hi3 hy with e | e
    · rw [e]; exact h1
    · exact bless_trans _ _ _ e h1
  have h3 : Op.bytesLess y.1.toList x.1.toList = true := by
    rcases right_low hj3 hx with e | e
    · rw [← e]; exact h2
    · exact bless_trans _ _ _ h2 e
  rw [hk, bless_self] at h3
  cases h3
def listsL (M : List EntD) (A B C : List RunD) : List (List EntD) := M :: (A.reverse.map (·.1) ++ (B.reverse.map (·.1) ++ C.reverse.map (·.1)))
theorem ov_flat {X : List EntD} {B : List RunD} : Ov X (flatR B) ↔ ∀ b ∈ B.reverse.map (·.1), Ov X b := by
  unfold Ov flatR
  simp only [List.mem_flatMap, List.mem_map, List.mem_reverse]
  constructor
  · rintro h b ⟨r, hr, rfl⟩ x hx y hy
    exact h x hx y ⟨r, hr, hy⟩
  · rintro h x hx y ⟨r, hr, hy⟩
    exact h r.1 ⟨r, hr, rfl⟩ x hx y hy
theorem flat_ov {X : List EntD} {B : List RunD} : Ov (flatR B) X ↔ ∀ b ∈ B.reverse.map (·.1), Ov b X := by
  unfold Ov flatR
  simp only [List.mem_flatMap, List.mem_map, List.mem_reverse]
  constructor
  · rintro h b ⟨r, hr, rfl⟩ x hx y hy
    exact h x ⟨r, hr, hx⟩ y hy
  · rintro h x ⟨r, hr, hx⟩ y hy
    exact h r.1 ⟨r, hr, rfl⟩ x hx y hy
theorem parts_lists {M : List EntD} {A B C : List RunD} (hB : (B.reverse.map (·.1)).Pairwise Ov) (hC : (C.reverse.map (·.1)).Pairwise Ov) : (partsL M [A, B, C]).Pairwise Ov ↔ (listsL M A B C).Pairwise Ov := by
  unfold partsL listsL
  simp only [List.headD_cons, List.drop_succ_cons, List.drop_zero, List.map_cons, List.map_nil, List.cons_append, List.pairwise_cons, List.pairwise_append, List.mem_append, List.mem_cons, List.not_mem_nil, or_false, List.Pairwise.nil, and_true, false_implies, implies_true]
  constructor
  · rintro ⟨h1, h2, h3, h4⟩
    have hbc := h3 _ rfl
    refine ⟨?_, h2, ⟨hB, hC, ?_⟩, ?_⟩
    · rintro a (h | h | h)
      · exact h1 a (.inl h)
      · exact ov_flat.1 (h1 _ (.inr (.inl rfl))) a h
      · exact ov_flat.1 (h1 _ (.inr (.inr rfl))) a h
    · intro b hb c hc
      exact ov_flat.1 (flat_ov.1 hbc b hb) c hc
    · rintro a ha b (hb | hb)
      · exact ov_flat.1 (h4 a ha _ (.inl rfl)) b hb
      · exact ov_flat.1 (h4 a ha _ (.inr rfl)) b hb
  · rintro ⟨h1, h2, ⟨_, _, h3⟩, h4⟩
    refine ⟨?_, h2, ?_, ?_⟩
    · rintro a (h | h | h)
      · exact h1 a (.inl h)
      · rw [h]; exact ov_flat.2 (fun b hb => h1 b (.inr (.inl hb)))
      · rw [h]; exact ov_flat.2 (fun b hb => h1 b (.inr (.inr hb)))
    · intro c hc
      rw [hc]
      exact flat_ov.2 (fun b hb => ov_flat.2 (fun c hc => h3 b hb c hc))
    · rintro a ha b (hb | hb)
      · rw [hb]; exact ov_flat.2 (fun c hc => h4 a ha c (.inl hc))
      · rw [hb]; exact ov_flat.2 (fun c hc => h4 a ha c (.inr hc))
theorem runs_iff {B : List RunD} {most : Int} {ap : Bool} {q : Int} : runsB B most ap q = true ↔ (B.length : Int) ≤ most ∧ badB B = false ∧ (∀ r ∈ B, withinB r.1 q = true) ∧ (ap = true → levApart B = true) := by
  unfold runsB badB levApart
  simp only [Bool.and_eq_true, decide_eq_true_eq, List.all_eq_true, List.mem_range]
  constructor
  · rintro ⟨h1, h2⟩
    refine ⟨h1, ?_, ?_, ?_⟩
    · rw [List.any_eq_false]
      intro r hr
      obtain ⟨j, hj, rfl⟩ := List.getElem_of_mem hr
      have := h2 j hj
      rw [runAt_some (List.getElem?_eq_getElem hj), Bool.and_eq_true] at this
      simp [this.1]
    · intro r hr
      obtain ⟨j, hj, rfl⟩ := List.getElem_of_mem hr
      have := h2 j hj
      rw [runAt_some (List.getElem?_eq_getElem hj), Bool.and_eq_true, Bool.and_eq_true] at this
      exact this.2.1
    · intro hap j hj
      have := h2 j hj
      rw [runAt_some (List.getElem?_eq_getElem hj), Bool.and_eq_true, Bool.and_eq_true, hap] at this
      unfold apAt
      rw [List.getElem?_eq_getElem hj]
      simpa using this.2.2
  · rintro ⟨h1, h2, h3, h4⟩
    refine ⟨h1, fun j hj => ?_⟩
    rw [List.any_eq_false] at h2
    have e1 := h2 B[j] (List.getElem_mem hj)
    have e2 := h3 B[j] (List.getElem_mem hj)
    rw [runAt_some (List.getElem?_eq_getElem hj), e2]
    have e1' : runB B[j].1 B[j].2 = true := by simpa using e1
    rw [e1']
    cases ap with
    | false => rfl
    | true =>
      have := h4 rfl j hj
      unfold apAt at this
      rw [List.getElem?_eq_getElem hj] at this
      simpa using this
theorem bad_all' {B : List RunD} (h : badB B = false) : ∀ r ∈ B, runB r.1 r.2 = true := by
  unfold badB at h
  rw [List.any_eq_false] at h
  intro r hr
  simpa using h r hr
theorem tree_impl (q : Int) (M : List EntD) (A B C : List RunD) (S : List Int) :
    treeB q M [A, B, C] S = true ↔ 0 ≤ q ∧ q ≤ 100000 ∧ snapsB S q = true ∧ M.length ≤ 60 ∧ rightB M = true ∧ levelsI A B C = true ∧ newerB q (listsL M A B C).flatten = true := by
  have hI : levelsI A B C = true ↔ ((A.length : Int) ≤ 4 ∧ badB A = false) ∧ ((B.length : Int) ≤ 8 ∧ badB B = false ∧ levApart B = true) ∧ ((C.length : Int) ≤ 8 ∧ badB C = false ∧ levApart C = true) := by
    unfold levelsI ok0 ok1
    simp only [Bool.and_eq_true, decide_eq_true_eq, Bool.not_eq_true']
  have hT : treeB q M [A, B, C] S = true ↔ 0 ≤ q ∧ q ≤ 100000 ∧ M.length ≤ 60 ∧ rightB M = true ∧ withinB M q = true ∧ snapsB S q = true ∧ (runsB A 4 false q = true ∧ runsB B 8 true q = true ∧ runsB C 8 true q = true) ∧ agedB (partsL M [A, B, C]) = true := by
    unfold treeB levelsB
    simp only [Bool.and_eq_true, decide_eq_true_eq, List.length_cons, List.length_nil, Nat.reduceAdd, true_and]
  rw [hT, hI, runs_iff, runs_iff, runs_iff, newer_iff, aged_ov, List.pairwise_flatten]
  have hmem : ∀ {Z : List RunD} {l : List EntD}, l ∈ Z.reverse.map (·.1) → ∃ r ∈ Z, r.1 = l := by
    intro Z l hl
    rw [List.mem_map] at hl
    obtain ⟨r, hr, rfl⟩ := hl
    exact ⟨r, List.mem_reverse.1 hr, rfl⟩
  have hwi : ∀ {L : List EntD}, withinB L q = true ↔ ∀ e ∈ L, e.2.1 ≤ q := by
    intro L
    unfold withinB
    simp only [List.all_eq_true, decide_eq_true_eq]
  have hin : ∀ {l : List EntD}, l ∈ listsL M A B C ↔ l = M ∨ (∃ r ∈ A, r.1 = l) ∨ (∃ r ∈ B, r.1 = l) ∨ (∃ r ∈ C, r.1 = l) := by
    intro l
    unfold listsL
    simp only [List.mem_cons, List.mem_append, List.mem_map, List.mem_reverse]
  constructor
  · rintro ⟨h1, h2, h3, h4, h5, h6, ⟨⟨a1, a2, a3, _⟩, ⟨b1, b2, b3, b4⟩, ⟨c1, c2, c3, c4⟩⟩, h8⟩
    have hB := apart_ov (b4 rfl) (bad_all' b2)
    have hC := apart_ov (c4 rfl) (bad_all' c2)
    refine ⟨h1, h2, h6, h3, h4, ⟨⟨a1, a2⟩, ⟨b1, b2, b4 rfl⟩, ⟨c1, c2, c4 rfl⟩⟩, ⟨?_, (parts_lists hB hC).1 h8⟩, ?_⟩
    · intro l hl
      rcases hin.1 hl with rfl | ⟨r, hr, rfl⟩ | ⟨r, hr, rfl⟩ | ⟨r, hr, rfl⟩
      · exact right_over h4
      · exact right_over (runB_parts (bad_all' a2 r hr)).2.2.1
      · exact right_over (runB_parts (bad_all' b2 r hr)).2.2.1
      · exact right_over (runB_parts (bad_all' c2 r hr)).2.2.1
    · intro e he
      obtain ⟨l, hl, hx⟩ := List.mem_flatten.1 he
      clear he
      have he := hx
      rcases hin.1 hl with rfl | ⟨r, hr, rfl⟩ | ⟨r, hr, rfl⟩ | ⟨r, hr, rfl⟩
      · exact ⟨right_one h4 e he, hwi.1 h5 e he⟩
      · exact ⟨right_one (runB_parts (bad_all' a2 r hr)).2.2.1 e he, hwi.1 (a3 r hr) e he⟩
      · exact ⟨right_one (runB_parts (bad_all' b2 r hr)).2.2.1 e he, hwi.1 (b3 r hr) e he⟩
      · exact ⟨right_one (runB_parts (bad_all' c2 r hr)).2.2.1 e he, hwi.1 (c3 r hr) e he⟩
  · rintro ⟨h1, h2, h6, h3, h4, ⟨⟨a1, a2⟩, ⟨b1, b2, b4⟩, ⟨c1, c2, c4⟩⟩, ⟨_, h8⟩, h9⟩
    have hB := apart_ov b4 (bad_all' b2)
    have hC := apart_ov c4 (bad_all' c2)
    have hw : ∀ l ∈ listsL M A B C, withinB l q = true := fun l hl => hwi.2 (fun e he => (h9 e (List.mem_flatten.2 ⟨l, hl, he⟩)).2)
    exact ⟨h1, h2, h3, h4, hw M (hin.2 (.inl rfl)), h6, ⟨⟨a1, a2, fun r hr => hw _ (hin.2 (.inr (.inl ⟨r, hr, rfl⟩))), fun e => by cases e⟩, ⟨b1, b2, fun r hr => hw _ (hin.2 (.inr (.inr (.inl ⟨r, hr, rfl⟩)))), fun _ => b4⟩, ⟨c1, c2, fun r hr => hw _ (hin.2 (.inr (.inr (.inr ⟨r, hr, rfl⟩)))), fun _ => c4⟩⟩, (parts_lists hB hC).2 h8⟩
end Go.Proofs.YtlmgojlffgkciaaGreat
