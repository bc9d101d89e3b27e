/-
  The program's meeting: where the runs stand that meet a range, by walks of its Go text and of the library's sort.Search.
-/
import Derived.Test.YtlmgojlffgkciaaGreatCe18
import Derived.Test.YtlmgojlffgkciaaGreatCe25
import Derived.Test.YtlmgojlffgkciaaGreatCe26
namespace Go.Proofs.YtlmgojlffgkciaaGreat
open Go.RowKit
set_option maxRecDepth 100000
set_option maxHeartbeats 4000000
theorem meetClo1 (lo P1 P2 b off n c : Nat) (B : List RunD) (k1 k2 : ByteArray) (i : Nat) (r : RunD) (w : World) (hB : RunsIn lo w (some ⟨b, off, none⟩) n c B) (hr : B[i]? = some r) (hl : 1 ≤ r.1.length ∧ r.1.length ≤ 1048576) (h1 : w.cell? ⟨P1, 0, none⟩ = some (.slice (some ⟨b, off, none⟩) n c)) (h2 : w.cell? ⟨P2, 0, none⟩ = some (.string k1)) (h3 : w.cell? ⟨P2, 1, none⟩ = some (.string k2)) :
    Calls Tryz.prog 131 #[.int .i64 i, .pointer (some ⟨P1, 0, none⟩), .pointer (some ⟨P2, 0, none⟩)] w fun e w' => e = .returned (.bool (!Op.bytesLess (highK r.1).toList k1.toList)) ∧ Below w.heap.size w w' := by
  have hi := (List.getElem?_eq_some_iff.1 hr).1
  have hbl := hB.length
  obtain ⟨L, m, s, ne, ce, hr', _, g0, _, hE⟩ := hB.run (Below.refl _ w) i (by omega)
  rw [hr] at hr'
  cases hr'
  simp only at hl
  obtain ⟨be, oe, rfl, hbe⟩ := hE.1.form (by have := hE.1.length; have := hl.1; omega)
  have hne : 1 ≤ ne := by have := hE.1.length; have := hl.1; omega
  have hbb := (hB.lies _ rfl (by omega)).1
  simp only at hbb
  have hne2 : ne ≤ 1048576 := by have := hE.1.length; have := hl.2; omega
  have CR : Hid (∀ w', Below w.heap.size w w' → Calls Tryz.prog 104 #[.slice (some ⟨be, oe, none⟩) ne ce] w' fun r w'' => r = .returned (.agg #[.string (lowK L), .string (highK L)]) ∧ Below w'.heap.size w' w'') := fun w' k => implRange be oe ne ce L w' (hE.1.keep k) hne
  have HMK : Hid (∀ w', Below w.heap.size w w' → (fun w' => w'.cell? ⟨P1, 0, none⟩ = some (.slice (some ⟨b, off, none⟩) n c) ∧ w'.cell? ⟨P2, 0, none⟩ = some (.string k1) ∧ w'.cell? ⟨P2, 1, none⟩ = some (.string k2) ∧ w'.cell? ⟨b, off + i * 2, none⟩ = some (.slice (some ⟨be, oe, none⟩) ne ce) ∧ P1 < w'.heap.size ∧ P2 < w'.heap.size ∧ b < w'.heap.size) w') := fun w' kk => ⟨cell_later kk h1, cell_later kk h2, cell_later kk h3, cell_later kk g0, Nat.lt_of_lt_of_le (World.block_lt_of_cell? _ _ h1) kk.size, Nat.lt_of_lt_of_le (World.block_lt_of_cell? _ _ h2) kk.size, Nat.lt_of_lt_of_le hbb kk.size⟩
  have k0 : Below w.heap.size w w.drew := (Below.refl _ w).drew
  obtain ⟨lk, hlk⟩ : ∃ lk, lk = lowK L := ⟨_, rfl⟩
  obtain ⟨hk, hhk⟩ : ∃ hk, hk = highK L := ⟨_, rfl⟩
  rw [← hlk, ← hhk] at CR
  try rw [← hlk]
  try rw [← hhk]
  have CE : Hid (∀ w', Calls Tryz.prog 132 #[.agg #[.string lk, .string hk], .agg #[.string k1, .string k2]] w' fun e w'' => e = .returned (.bool (Op.bytesLess hk.toList k1.toList)) ∧ Below w'.heap.size w' w'') := fun w' => implAhead _ _ _ _ w'
  have hiI : (i : Int) < (n : Int) := by omega
  clear hlk hhk hE hB hr hl h1 h2 h3 g0
  go_enter Tryz.func131, Tryz.ntmps131
  go_upto_region 1 with fail
  refine wp_region_held_drew (S := (fun w' => w'.cell? ⟨P1, 0, none⟩ = some (.slice (some ⟨b, off, none⟩) n c) ∧ w'.cell? ⟨P2, 0, none⟩ = some (.string k1) ∧ w'.cell? ⟨P2, 1, none⟩ = some (.string k2) ∧ w'.cell? ⟨b, off + i * 2, none⟩ = some (.slice (some ⟨be, oe, none⟩) ne ce) ∧ P1 < w'.heap.size ∧ P2 < w'.heap.size ∧ b < w'.heap.size)) (by kernel_rfl) (HMK.out _ k0) (fun hHeld => ?_)
  refine tkL 0 hHeld ?_; try go_frame
  refine tkL 1 hHeld ?_; try go_frame
  refine tkL 2 hHeld ?_; try go_frame
  refine tkL 3 hHeld ?_; try go_frame
  refine tkL 4 hHeld ?_; try go_frame
  refine tkL 6 hHeld ?_; try go_frame
  refine wpAnyH_ready (rs := [5]) (by kernel_rfl) (by simp) ?_
  refine consL rfl (fun K hK => ?_) AllReadyH.nil
  go_simp
  refine (CR.out _ k0).mono ?_
  rintro e w1 ⟨rfl, hb1⟩
  have k1' : Below w.heap.size w w1 := k0.trans (hb1.mono k0.size)
  go_wp2_with fail
  refine hK.out _ _ (HMK.out _ k1') (fun hHeld => ?_)
  clear hK K
  try go_frame
  refine wpAnyH_ready (rs := [7]) (by kernel_rfl) (by simp) ?_
  refine consL rfl (fun K hK => ?_) AllReadyH.nil
  go_simp
  refine (CE.out _).mono ?_
  rintro e w2 ⟨rfl, hb2⟩
  have k2' : Below w.heap.size w w2 := k1'.trans (hb2.mono k1'.size)
  go_wp2_with fail
  refine hK.out _ _ (HMK.out _ k2') (fun hHeld => ?_)
  clear hK K
  try go_frame
  refine tkL 8 hHeld ?_; try go_frame
  refine tkL 9 hHeld ?_; try go_frame
  refine wpAnyH_done (by kernel_rfl) ?_ _
  clear hHeld HMK
  go_wp2
  go_ret
  exact ⟨by first | rfl | simp, k2'⟩
theorem meetClo2 (lo P1 P2 b off n c : Nat) (B : List RunD) (k1 k2 : ByteArray) (i : Nat) (r : RunD) (w : World) (hB : RunsIn lo w (some ⟨b, off, none⟩) n c B) (hr : B[i]? = some r) (hl : 1 ≤ r.1.length ∧ r.1.length ≤ 1048576) (h1 : w.cell? ⟨P1, 0, none⟩ = some (.slice (some ⟨b, off, none⟩) n c)) (h2 : w.cell? ⟨P2, 0, none⟩ = some (.string k1)) (h3 : w.cell? ⟨P2, 1, none⟩ = some (.string k2)) :
    Calls Tryz.prog 133 #[.int .i64 i, .pointer (some ⟨P2, 0, none⟩), .pointer (some ⟨P1, 0, none⟩)] w fun e w' => e = .returned (.bool (Op.bytesLess k2.toList (lowK r.1).toList)) ∧ Below w.heap.size w w' := by
  have hi := (List.getElem?_eq_some_iff.1 hr).1
  have hbl := hB.length
  obtain ⟨L, m, s, ne, ce, hr', _, g0, _, hE⟩ := hB.run (Below.refl _ w) i (by omega)
  rw [hr] at hr'
  cases hr'
  simp only at hl
  obtain ⟨be, oe, rfl, hbe⟩ := hE.1.form (by have := hE.1.length; have := hl.1; omega)
  have hne : 1 ≤ ne := by have := hE.1.length; have := hl.1; omega
  have hbb := (hB.lies _ rfl (by omega)).1
  simp only at hbb
  have hne2 : ne ≤ 1048576 := by have := hE.1.length; have := hl.2; omega
  have CR : Hid (∀ w', Below w.heap.size w w' → Calls Tryz.prog 104 #[.slice (some ⟨be, oe, none⟩) ne ce] w' fun r w'' => r = .returned (.agg #[.string (lowK L), .string (highK L)]) ∧ Below w'.heap.size w' w'') := fun w' k => implRange be oe ne ce L w' (hE.1.keep k) hne
  have HMK : Hid (∀ w', Below w.heap.size w w' → (fun w' => w'.cell? ⟨P1, 0, none⟩ = some (.slice (some ⟨b, off, none⟩) n c) ∧ w'.cell? ⟨P2, 0, none⟩ = some (.string k1) ∧ w'.cell? ⟨P2, 1, none⟩ = some (.string k2) ∧ w'.cell? ⟨b, off + i * 2, none⟩ = some (.slice (some ⟨be, oe, none⟩) ne ce) ∧ P1 < w'.heap.size ∧ P2 < w'.heap.size ∧ b < w'.heap.size) w') := fun w' kk => ⟨cell_later kk h1, cell_later kk h2, cell_later kk h3, cell_later kk g0, Nat.lt_of_lt_of_le (World.block_lt_of_cell? _ _ h1) kk.size, Nat.lt_of_lt_of_le (World.block_lt_of_cell? _ _ h2) kk.size, Nat.lt_of_lt_of_le hbb kk.size⟩
  have k0 : Below w.heap.size w w.drew := (Below.refl _ w).drew
  obtain ⟨lk, hlk⟩ : ∃ lk, lk = lowK L := ⟨_, rfl⟩
  obtain ⟨hk, hhk⟩ : ∃ hk, hk = highK L := ⟨_, rfl⟩
  rw [← hlk, ← hhk] at CR
  try rw [← hlk]
  try rw [← hhk]
  have CE : Hid (∀ w', Calls Tryz.prog 132 #[.agg #[.string k1, .string k2], .agg #[.string lk, .string hk]] w' fun e w'' => e = .returned (.bool (Op.bytesLess k2.toList lk.toList)) ∧ Below w'.heap.size w' w'') := fun w' => implAhead _ _ _ _ w'
  have hiI : (i : Int) < (n : Int) := by omega
  clear hlk hhk hE hB hr hl h1 h2 h3 g0
  go_enter Tryz.func133, Tryz.ntmps133
  go_upto_region 1 with fail
  refine wp_region_held_drew (S := (fun w' => w'.cell? ⟨P1, 0, none⟩ = some (.slice (some ⟨b, off, none⟩) n c) ∧ w'.cell? ⟨P2, 0, none⟩ = some (.string k1) ∧ w'.cell? ⟨P2, 1, none⟩ = some (.string k2) ∧ w'.cell? ⟨b, off + i * 2, none⟩ = some (.slice (some ⟨be, oe, none⟩) ne ce) ∧ P1 < w'.heap.size ∧ P2 < w'.heap.size ∧ b < w'.heap.size)) (by kernel_rfl) (HMK.out _ k0) (fun hHeld => ?_)
  refine tkL 0 hHeld ?_; try go_frame
  refine tkL 1 hHeld ?_; try go_frame
  refine tkL 2 hHeld ?_; try go_frame
  refine tkL 3 hHeld ?_; try go_frame
  refine tkL 4 hHeld ?_; try go_frame
  refine tkL 5 hHeld ?_; try go_frame
  refine wpAnyH_ready (rs := [6]) (by kernel_rfl) (by simp) ?_
  refine consL rfl (fun K hK => ?_) AllReadyH.nil
  go_simp
  refine (CR.out _ k0).mono ?_
  rintro e w1 ⟨rfl, hb1⟩
  have k1' : Below w.heap.size w w1 := k0.trans (hb1.mono k0.size)
  go_wp2_with fail
  refine hK.out _ _ (HMK.out _ k1') (fun hHeld => ?_)
  clear hK K
  try go_frame
  refine wpAnyH_ready (rs := [7]) (by kernel_rfl) (by simp) ?_
  refine consL rfl (fun K hK => ?_) AllReadyH.nil
  go_simp
  refine (CE.out _).mono ?_
  rintro e w2 ⟨rfl, hb2⟩
  have k2' : Below w.heap.size w w2 := k1'.trans (hb2.mono k1'.size)
  go_wp2_with fail
  refine hK.out _ _ (HMK.out _ k2') (fun hHeld => ?_)
  clear hK K
  try go_frame
  refine tkL 8 hHeld ?_; try go_frame
  refine wpAnyH_done (by kernel_rfl) ?_ _
  clear hHeld HMK
  go_wp2
  go_ret
  exact ⟨by first | rfl | simp, k2'⟩
theorem searchM1 (P1 P2 n : Nat) (p : Nat → Bool) (w : World) (hn : n ≤ 1048576) (hC : ∀ i w', i < n → Below w.heap.size w w' → Calls Tryz.prog 131 #[.int .i64 i, .pointer (some ⟨P1, 0, none⟩), .pointer (some ⟨P2, 0, none⟩)] w' fun e w'' => e = .returned (.bool (p i)) ∧ Below w'.heap.size w' w'') (hm : ∀ a b, a ≤ b → b < n → p a = true → p b = true) :
    Calls Tryz.prog 130 #[.int .i64 n, .func (.func 131) #[] #[.pointer (some ⟨P1, 0, none⟩), .pointer (some ⟨P2, 0, none⟩)]] w fun e w' => ∃ i : Nat, e = .returned (.int .i64 i) ∧ i ≤ n ∧ (∀ t, t < i → p t = false) ∧ (∀ t, i ≤ t → t < n → p t = true) ∧ Below w.heap.size w w' := by
  have HC : Hid (∀ i w', i < n → Below w.heap.size w w' → Calls Tryz.prog 131 #[.int .i64 i, .pointer (some ⟨P1, 0, none⟩), .pointer (some ⟨P2, 0, none⟩)] w' fun e w'' => e = .returned (.bool (p i)) ∧ Below w'.heap.size w' w'') := hC
  have HM : Hid (∀ a b, a ≤ b → b < n → p a = true → p b = true) := hm
  clear hC hm
  go_enter Tryz.func130, Tryz.ntmps130
  go_wp2
  go_loopw [5, 6] (fun lv hv wr => ∃ (a b : Nat), a ≤ b ∧ b ≤ n ∧ lv = .int .i64 a ∧ hv = .int .i64 b ∧ (∀ t, t < a → p t = false) ∧ (∀ t, b ≤ t → t < n → p t = true) ∧ Below w.heap.size w wr) (fun lv hv _ => (intOf hv).toNat - (intOf lv).toNat)
  case atStart => exact ⟨0, n, Nat.zero_le _, Nat.le_refl _, rfl, rfl, (fun t ht => absurd ht (Nat.not_lt_zero _)), (fun t h1 h2 => by omega), Below.refl _ _⟩
  case round =>
    obtain ⟨a, b, hab, hbn, rfl, rfl, hlo, hhi, hb⟩ := hrel
    have HLO : Hid (∀ t, t < a → p t = false) := hlo
    have HHI : Hid (∀ t, b ≤ t → t < n → p t = true) := hhi
    have HB : Hid (Below w.heap.size w wr) := hb
    clear hlo hhi hb
    by_cases hlt : a < b
    · have hltI : (a : Int) < (b : Int) := by omega
      obtain ⟨h, hh⟩ : ∃ h, h = (a + b) / 2 := ⟨_, rfl⟩
      have hh1 : a ≤ h := by omega
      have hh2 : h < b := by omega
      have hhI : ((a : Int) + (b : Int)) / 2 = (h : Int) := by omega
      have CC : Hid (Calls Tryz.prog 131 #[.int .i64 h, .pointer (some ⟨P1, 0, none⟩), .pointer (some ⟨P2, 0, none⟩)] wr fun e w'' => e = .returned (.bool (p h)) ∧ Below wr.heap.size wr w'') := HC.out h wr (by omega) HB.out
      have HHL : Hid (h = (a + b) / 2) := hh
      clear hh
      go_wp2_with fail
      try rw [hhI]
      refine CC.out.mono ?_
      rintro e w1 ⟨rfl, hb1⟩
      have HB1 : Hid (Below w.heap.size w w1) := HB.out.trans (hb1.mono HB.out.size)
      clear hb1
      cases hp : p h with
      | false =>
        have HP : Hid (p h = false) := hp
        clear hp
        go_wp2
        go_roundw
        case rel =>
          refine ⟨h + 1, b, by omega, hbn, by go_num, rfl, fun t ht => ?_, HHI.out, HB1.out⟩
          cases hq : p t with
          | false => rfl
          | true => have := HM.out t h (by omega) (by omega) hq; rw [HP.out] at this; cases this
        case measure => simp [intOf]; omega
      | true =>
        have HP : Hid (p h = true) := hp
        clear hp
        go_wp2
        go_roundw
        case rel =>
          refine ⟨a, h, hh1, by omega, rfl, by go_num, HLO.out, fun t h1 h2 => HM.out h t h1 h2 HP.out, HB1.out⟩
        case measure => simp [intOf]; omega
    · have hltI : ¬ (a : Int) < (b : Int) := by omega
      obtain rfl : a = b := by omega
      go_wp2
      go_ret
      exact ⟨a, rfl, hbn, HLO.out, HHI.out, HB.out⟩
theorem searchM2 (P1 P2 n : Nat) (p : Nat → Bool) (w : World) (hn : n ≤ 1048576) (hC : ∀ i w', i < n → Below w.heap.size w w' → Calls Tryz.prog 133 #[.int .i64 i, .pointer (some ⟨P2, 0, none⟩), .pointer (some ⟨P1, 0, none⟩)] w' fun e w'' => e = .returned (.bool (p i)) ∧ Below w'.heap.size w' w'') (hm : ∀ a b, a ≤ b → b < n → p a = true → p b = true) :
    Calls Tryz.prog 130 #[.int .i64 n, .func (.func 133) #[] #[.pointer (some ⟨P2, 0, none⟩), .pointer (some ⟨P1, 0, none⟩)]] w fun e w' => ∃ i : Nat, e = .returned (.int .i64 i) ∧ i ≤ n ∧ (∀ t, t < i → p t = false) ∧ (∀ t, i ≤ t → t < n → p t = true) ∧ Below w.heap.size w w' := by
  have HC : Hid (∀ i w', i < n → Below w.heap.size w w' → Calls Tryz.prog 133 #[.int .i64 i, .pointer (some ⟨P2, 0, none⟩), .pointer (some ⟨P1, 0, none⟩)] w' fun e w'' => e = .returned (.bool (p i)) ∧ Below w'.heap.size w' w'') := hC
  have HM : Hid (∀ a b, a ≤ b → b < n → p a = true → p b = true) := hm
  clear hC hm
  go_enter Tryz.func130, Tryz.ntmps130
  go_wp2
  go_loopw [5, 6] (fun lv hv wr => ∃ (a b : Nat), a ≤ b ∧ b ≤ n ∧ lv = .int .i64 a ∧ hv = .int .i64 b ∧ (∀ t, t < a → p t = false) ∧ (∀ t, b ≤ t → t < n → p t = true) ∧ Below w.heap.size w wr) (fun lv hv _ => (intOf hv).toNat - (intOf lv).toNat)
  case atStart => exact ⟨0, n, Nat.zero_le _, Nat.le_refl _, rfl, rfl, (fun t ht => absurd ht (Nat.not_lt_zero _)), (fun t h1 h2 => by omega), Below.refl _ _⟩
  case round =>
    obtain ⟨a, b, hab, hbn, rfl, rfl, hlo, hhi, hb⟩ := hrel
    have HLO : Hid (∀ t, t < a → p t = false) := hlo
    have HHI : Hid (∀ t, b ≤ t → t < n → p t = true) := hhi
    have HB : Hid (Below w.heap.size w wr) := hb
    clear hlo hhi hb
    by_cases hlt : a < b
    · have hltI : (a : Int) < (b : Int) := by omega
      obtain ⟨h, hh⟩ : ∃ h, h = (a + b) / 2 := ⟨_, rfl⟩
      have hh1 : a ≤ h := by omega
      have hh2 : h < b := by omega
      have hhI : ((a : Int) + (b : Int)) / 2 = (h : Int) := by omega
      have CC : Hid (Calls Tryz.prog 133 #[.int .i64 h, .pointer (some ⟨P2, 0, none⟩), .pointer (some ⟨P1, 0, none⟩)] wr fun e w'' => e = .returned (.bool (p h)) ∧ Below wr.heap.size wr w'') := HC.out h wr (by omega) HB.out
      have HHL : Hid (h = (a + b) / 2) := hh
      clear hh
      go_wp2_with fail
      try rw [hhI]
      refine CC.out.mono ?_
      rintro e w1 ⟨rfl, hb1⟩
      have HB1 : Hid (Below w.heap.size w w1) := HB.out.trans (hb1.mono HB.out.size)
      clear hb1
      cases hp : p h with
      | false =>
        have HP : Hid (p h = false) := hp
        clear hp
        go_wp2
        go_roundw
        case rel =>
          refine ⟨h + 1, b, by omega, hbn, by go_num, rfl, fun t ht => ?_, HHI.out, HB1.out⟩
          cases hq : p t with
          | false => rfl
          | true => have := HM.out t h (by omega) (by omega) hq; rw [HP.out] at this; cases this
        case measure => simp [intOf]; omega
      | true =>
        have HP : Hid (p h = true) := hp
        clear hp
        go_wp2
        go_roundw
        case rel =>
          refine ⟨a, h, hh1, by omega, rfl, by go_num, HLO.out, fun t h1 h2 => HM.out h t h1 h2 HP.out, HB1.out⟩
        case measure => simp [intOf]; omega
    · have hltI : ¬ (a : Int) < (b : Int) := by omega
      obtain rfl : a = b := by omega
      go_wp2
      go_ret
      exact ⟨a, rfl, hbn, HLO.out, HHI.out, HB.out⟩
theorem implMeeting (lo : Nat) (a : Option Addr) (n c : Nat) (B : List RunD) (k1 k2 : ByteArray) (w : World) (hB : RunsIn lo w a n c B) (hn : n ≤ 1000) (ha : levApart B = true) (hok : ∀ r ∈ B, runB r.1 r.2 = true) :
    Calls Tryz.prog 90 #[.slice a n c, .agg #[.string k1, .string k2]] w fun e w' => ∃ i j : Nat, e = .returned (.tuple #[.int .i64 i, .int .i64 j]) ∧ MeetR B k1 k2 i j ∧ Below w.heap.size w w' := by
  have hbl := hB.length
  obtain ⟨X, hX⟩ : ∃ X, X = w.heap.size := ⟨_, rfl⟩
  obtain ⟨W, hW⟩ : ∃ W, W = (w.alloc (.cells #[.slice a n c] 64)).alloc (.cells #[.string k1, .string k2] 109) := ⟨_, rfl⟩
  have kW : Below w.heap.size w W := by rw [hW]; exact ((Below.refl _ _).alloc (Nat.le_refl _) _).alloc (by simp) _
  have x0 : W.cell? ⟨X, 0, none⟩ = some (.slice a n c) := by rw [hW, hX]; exact cell_later ((Below.refl _ _).alloc (Nat.le_refl _) _) (by have := cell_one_new' w (.slice a n c) 64 0 _ rfl; rwa [Go.WideShapes.add_plain] at this)
  have hy : ∀ j u, [Value.string k1, Value.string k2][j]? = some u → W.cell? ⟨X + 1, j, none⟩ = some u := fun j u hu => by
    have h1 := cell_two_new' (w.alloc (.cells #[.slice a n c] 64)) (.string k1) (.string k2) 109 j u hu
    rw [Go.WideShapes.add_plain, Nat.zero_add, World.size_alloc, ← hW, ← hX] at h1
    exact h1
  have y0 := hy 0 _ rfl
  have y1 := hy 1 _ rfl
  have K0 : Hid (Below w.heap.size w W) := kW
  obtain ⟨p1, hp1⟩ : ∃ p1 : Nat → Bool, p1 = fun t => match B[t]? with | some r => !Op.bytesLess (highK r.1).toList k1.toList | none => true := ⟨_, rfl⟩
  obtain ⟨p2, hp2⟩ : ∃ p2 : Nat → Bool, p2 = fun t => match B[t]? with | some r => Op.bytesLess k2.toList (lowK r.1).toList | none => true := ⟨_, rfl⟩
  have C1 : Hid (∀ w', Below W.heap.size W w' → Calls Tryz.prog 130 #[.int .i64 n, .func (.func 131) #[] #[.pointer (some ⟨X, 0, none⟩), .pointer (some ⟨X + 1, 0, none⟩)]] w' fun e w'' => ∃ i : Nat, e = .returned (.int .i64 i) ∧ i ≤ n ∧ (∀ t, t < i → p1 t = false) ∧ (∀ t, i ≤ t → t < n → p1 t = true) ∧ Below w'.heap.size w' w'') := fun w' k => by
    refine searchM1 X (X + 1) n p1 w' (by omega) (fun i w2 hi kk2 => ?_) (fun s t hst ht h => ?_)
    · obtain ⟨b, off, rfl, _⟩ := hB.form (by omega)
      have hr := List.getElem?_eq_getElem (show i < B.length by omega)
      have hk2 := k.trans (kk2.mono k.size)
      obtain ⟨_, hl1, hl2⟩ := run_parts (hok _ (List.getElem_mem (show i < B.length by omega)))
      have h := meetClo1 lo X (X + 1) b off n c B k1 k2 i _ w2 ((hB.keep kW).keep hk2) hr ⟨hl1, by omega⟩ (cell_later hk2 x0) (cell_later hk2 y0) (cell_later hk2 y1)
      rw [hp1]
      simp only [hr]
      exact h
    · have hs := List.getElem?_eq_getElem (show s < B.length by omega)
      have ht' := List.getElem?_eq_getElem (show t < B.length by omega)
      rw [hp1] at h ⊢
      simp only [hs] at h
      simp only [ht']
      cases hq : Op.bytesLess (highK B[t].1).toList k1.toList with
      | false => rfl
      | true => rw [high_up ha hok hs ht' hst k1 hq] at h; cases h
  have C2 : Hid (∀ w', Below W.heap.size W w' → Calls Tryz.prog 130 #[.int .i64 n, .func (.func 133) #[] #[.pointer (some ⟨X + 1, 0, none⟩), .pointer (some ⟨X, 0, none⟩)]] w' fun e w'' => ∃ i : Nat, e = .returned (.int .i64 i) ∧ i ≤ n ∧ (∀ t, t < i → p2 t = false) ∧ (∀ t, i ≤ t → t < n → p2 t = true) ∧ Below w'.heap.size w' w'') := fun w' k => by
    refine searchM2 X (X + 1) n p2 w' (by omega) (fun i w2 hi kk2 => ?_) (fun s t hst ht h => ?_)
    · obtain ⟨b, off, rfl, _⟩ := hB.form (by omega)
      have hr := List.getElem?_eq_getElem (show i < B.length by omega)
      have hk2 := k.trans (kk2.mono k.size)
      obtain ⟨_, hl1, hl2⟩ := run_parts (hok _ (List.getElem_mem (show i < B.length by omega)))
      have h := meetClo2 lo X (X + 1) b off n c B k1 k2 i _ w2 ((hB.keep kW).keep hk2) hr ⟨hl1, by omega⟩ (cell_later hk2 x0) (cell_later hk2 y0) (cell_later hk2 y1)
      rw [hp2]
      simp only [hr]
      exact h
    · have hs := List.getElem?_eq_getElem (show s < B.length by omega)
      have ht' := List.getElem?_eq_getElem (show t < B.length by omega)
      rw [hp2] at h ⊢
      simp only [hs] at h
      simp only [ht']
      exact low_up ha hok hs ht' hst k2 h
  have HR : Hid (∀ i j : Nat, i ≤ n → j ≤ n → (∀ t, t < i → p1 t = false) → (∀ t, i ≤ t → t < n → p1 t = true) → (∀ t, t < j → p2 t = false) → (∀ t, j ≤ t → t < n → p2 t = true) → MeetR B k1 k2 i j) := fun i j hi hj h1 h2 h3 h4 => by
    refine ⟨by omega, by omega, fun t r hr => ⟨fun h => ?_, fun h => ?_, fun h => ?_, fun h => ?_⟩⟩
    · have := h1 t h; rw [hp1] at this; simp only [hr] at this; simpa using this
    · have := h2 t h (by have := (List.getElem?_eq_some_iff.1 hr).1; omega); rw [hp1] at this; simp only [hr] at this; simpa using this
    · have := h3 t h; rw [hp2] at this; simp only [hr] at this; exact this
    · have := h4 t h (by have := (List.getElem?_eq_some_iff.1 hr).1; omega); rw [hp2] at this; simp only [hr] at this; exact this
  clear hp1 hp2 hB kW ha hok hy y0 y1
  have xz := World.block_lt_of_cell? _ _ x0
  simp only at xz
  go_enter Tryz.func90, Tryz.ntmps90
  go_wp2_with fail
  rw [← hX, ← hW]
  clear hX hW
  refine (C1.out _ (Below.refl _ _)).mono ?_
  rintro e w1 ⟨i, rfl, hi, hi1, hi2, hb1⟩
  have I1 : Hid (i ≤ n ∧ (∀ t, t < i → p1 t = false) ∧ (∀ t, i ≤ t → t < n → p1 t = true)) := ⟨hi, hi1, hi2⟩
  have K1 : Hid (Below W.heap.size W w1) := hb1
  have x0 := cell_later hb1 x0
  have xz := Nat.lt_of_lt_of_le xz hb1.size
  clear hb1 hi1 hi2 hi
  go_wp2_with fail
  refine (C2.out _ K1.out).mono ?_
  rintro e w2 ⟨j, rfl, hj, hj1, hj2, hb2⟩
  have I2 : Hid (MeetR B k1 k2 i j) := HR.out i j I1.out.1 hj I1.out.2.1 I1.out.2.2 hj1 hj2
  have K2 : Hid (Below w.heap.size w w2) := K0.out.trans ((K1.out.trans (hb2.mono K1.out.size)).mono K0.out.size)
  clear hb2 hj1 hj2 hj
  go_wp2
  exact bodyPost_ret (v := .tuple #[.int .i64 i, .int .i64 j]) (by simp [results, Tryz.results90, go_sem]) rfl ⟨i, j, rfl, I2.out, K2.out⟩
end Go.Proofs.YtlmgojlffgkciaaGreat
