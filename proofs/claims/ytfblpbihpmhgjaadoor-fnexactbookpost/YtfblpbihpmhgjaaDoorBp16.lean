/-
  What the document's book functions answer (a balance, how posting ends, whether postings are a book), by walks of their Go text.
-/
import Derived.Test.YtfblpbihpmhgjaaDoorBp13
import Derived.Test.YtfblpbihpmhgjaaDoorBp15
import Derived.Test.YtfblpbihpmhgjaaDoorBp14
import Derived.Deep.RegionWith
import Derived.Deep.RegionHeld3
import Derived.Deep.DeepCutAuto
namespace Go.Proofs.YtfblpbihpmhgjaaDoor
open Go.RowKit

set_option maxHeartbeats 1000000 in
theorem specBal (acct : ByteArray) (cur : Int) (a : Option Addr) (n c : Nat) (B : List PostD) (w : World) (hP : PostsAt w a n c B) (h40 : n ≤ 40) (hg : ∀ p ∈ B, postB p.1 p.2 = true) :
    Calls Tryd.prog 140 #[.slice a n c, .string acct, .int .i64 cur] w fun e w' => e = .returned (.int .i64 (balP B acct cur)) ∧ Below w.heap.size w w' := by
  have HLEN : Hid (B.length = n) := hP.length
  have HP : Hid (PostsAt w a n c B) := hP
  have HG : Hid (∀ p ∈ B, postB p.1 p.2 = true) := hg
  clear hP hg
  go_enter Tryd.func140, Tryd.ntmps140
  go_wp2
  go_loopw [7, 8] (fun m i wr => ∃ k : Nat, k ≤ n ∧ i = .int .i64 k ∧ m = .int .i64 (balP (B.take k) acct cur) ∧ Below w.heap.size w wr) (fun _ i _ => n - (intOf i).toNat)
  case atStart => exact ⟨0, Nat.zero_le _, rfl, rfl, Below.refl _ _⟩
  case round =>
    obtain ⟨k, hk, rfl, rfl, hb⟩ := hrel
    have hbd := balP_bd40 (B := B.take k) (by simp; omega) acct cur
    obtain ⟨A0, hA0⟩ : ∃ A0, A0 = balP (B.take k) acct cur := ⟨_, rfl⟩
    rw [← hA0] at hbd ⊢
    have HA0 : Hid (A0 = balP (B.take k) acct cur) := hA0
    obtain ⟨hb1, hb2⟩ := hbd
    clear hA0
    by_cases hlt : k < n
    · obtain ⟨b, off, rfl, hbb⟩ := HP.out.form (by omega)
      obtain ⟨id, L, s, m, cm, hgk, _, g0, g1, hLk⟩ := HP.out.post hb k hlt
      have hgood := HG.out _ (List.mem_of_getElem? hgk)
      simp only at hgood
      have hbk : b < wr.heap.size := Nat.lt_of_lt_of_le hbb hb.size
      have HGK : Hid (B[k]? = some (id, L)) := hgk
      have hto := toP_bd (id, L) acct cur
      obtain ⟨T0, hT0⟩ : ∃ T0, T0 = toP (id, L) acct cur := ⟨_, rfl⟩
      have HT0 : Hid (T0 = toP (id, L) acct cur) := hT0
      rw [← hT0] at hto
      obtain ⟨ht1, ht2⟩ := hto
      have HTS : Hid (T0 = atY (selY cur L) acct.data.toList) := hT0.trans (toP_good hgood acct cur)
      have HALL : Hid (∀ l ∈ L, legB l = true) := postB_legs hgood
      have H4 : Hid (L.length ≤ 4) := postB_len hgood
      clear hgk hT0 hgood
      go_wp2_with (go_at_call 141; refine (l1To_any _ _ _ _ _ _ L _ hLk HALL.out H4.out).mono ?_; rw [← HTS.out]; rintro e w1 ⟨rfl, hb1'⟩)
      go_roundw
      case rel => exact ⟨k + 1, by omega, by go_num, by rw [balP_take HGK.out, ← HA0.out, ← HT0.out], hb.trans (hb1'.mono hb.size)⟩
      case measure => simp [intOf]; omega
    · go_wp2
      go_ret
      exact ⟨ret_int (by rw [HA0.out, List.take_of_length_le (by rw [HLEN.out]; omega)]), hb⟩

set_option maxHeartbeats 1000000 in
theorem specHas (id : Int) (a : Option Addr) (n c : Nat) (B : List PostD) (w : World) (hP : PostsAt w a n c B) :
    Calls Tryd.prog 116 #[.slice a n c, .int .i64 id] w fun e w' => e = .returned (.bool (hasP B id)) ∧ Below w.heap.size w w' := by
  have HLEN : Hid (B.length = n) := hP.length
  have HP : Hid (PostsAt w a n c B) := hP
  have hr := hP.room
  have hbg := hP.big
  unfold maxLen at hbg
  clear hP
  go_enter Tryd.func116, Tryd.ntmps116
  go_wp2
  go_loopw [5] (fun i wr => ∃ k : Nat, k ≤ n ∧ i = .int .i64 k ∧ Below w.heap.size w wr ∧ hasP (B.take k) id = false) (fun i _ => n - (intOf i).toNat)
  case atStart => exact ⟨0, Nat.zero_le _, rfl, Below.refl _ _, rfl⟩
  case round =>
    obtain ⟨k, hk, rfl, hb, hno⟩ := hrel
    have HNO : Hid (hasP (B.take k) id = false) := hno
    clear hno
    by_cases hlt : k < n
    · obtain ⟨b, off, rfl, hbb⟩ := HP.out.form (by omega)
      obtain ⟨id', L, s, m, cm, hgk, _, g0, g1, hLk⟩ := HP.out.post hb k hlt
      have HGK : Hid (B[k]? = some (id', L)) := hgk
      clear hgk hLk
      by_cases he : id' = id
      · subst he
        go_wp2
        go_ret
        exact ⟨ret_bool (hasP_yes HGK.out rfl).symm, hb⟩
      · have hee : (id' == id) = false := by simpa using he
        have HE : Hid (¬ id' = id) := he
        clear he
        go_wp2
        go_roundw
        case rel => exact ⟨k + 1, by omega, by go_num, hb, hasP_take_no HGK.out HE.out HNO.out⟩
        case measure => simp [intOf]; omega
    · go_wp2
      go_ret
      refine ⟨ret_bool ?_, hb⟩
      have := HNO.out
      rw [List.take_of_length_le (by rw [HLEN.out]; omega)] at this
      exact this.symm

set_option maxHeartbeats 2000000 in
theorem specOver (id : Int) (s : Option Addr) (m cm : Nat) (L : List LegD) (a : Option Addr) (n c : Nat) (B : List PostD) (w : World) (hP : PostsAt w a n c B) (hL : LegsAt w s m cm L) (h40 : n ≤ 40) (hg : ∀ p ∈ B, postB p.1 p.2 = true) (hp : postB id L = true) :
    Calls Tryd.prog 117 #[.slice a n c, .agg #[.int .i64 id, .slice s m cm]] w fun e w' => e = .returned (.bool (overP B (id, L))) ∧ Below w.heap.size w w' := by
  have HLEN : Hid (L.length = m) := hL.length
  have HBL : Hid (B.length ≤ 40) := by have := hP.length; show B.length ≤ 40; omega
  have hm4 : m ≤ 4 := by have := postB_len hp; have := hL.length; omega
  have HP : Hid (PostsAt w a n c B) := hP
  have HL : Hid (LegsAt w s m cm L) := hL
  have HG : Hid (∀ p ∈ B, postB p.1 p.2 = true) := hg
  have HPB : Hid (postB id L = true) := hp
  have hB : Below w.heap.size w (w.alloc (.cells #[.int .i64 id, .slice s m cm] 29)) := (Below.refl _ _).alloc (Nat.le_refl _) _
  clear hP hL hg hp
  go_enter Tryd.func117, Tryd.ntmps117
  go_wp2
  go_loopw [5] (fun i wr => ∃ k : Nat, k ≤ m ∧ i = .int .i64 k ∧ Below (w.heap.size + 1) (w.alloc (.cells #[.int .i64 id, .slice s m cm] 29)) wr ∧ (L.take k).any (overL B (id, L)) = false) (fun i _ => m - (intOf i).toNat)
  case atStart => exact ⟨0, Nat.zero_le _, rfl, Below.refl _ _, rfl⟩
  case round =>
    obtain ⟨k, hk, rfl, hb0, hno⟩ := hrel
    have HNO : Hid ((L.take k).any (overL B (id, L)) = false) := hno
    clear hno
    have hb : Below w.heap.size w wr := hB.trans (hb0.mono (by omega))
    have e0 : wr.cell? ⟨w.heap.size, 0, none⟩ = some (.int .i64 id) := (hb0.cell (p := ⟨w.heap.size, 0, none⟩) (by simp)).trans (by simp)
    have e1 : wr.cell? ⟨w.heap.size, 1, none⟩ = some (.slice s m cm) := (hb0.cell (p := ⟨w.heap.size, 1, none⟩) (by simp)).trans (by simp)
    obtain ⟨X, hX⟩ : ∃ X, X = w.heap.size := ⟨_, rfl⟩
    rw [← hX] at e0 e1
    simp only [← hX]
    have HX : Hid (X = w.heap.size) := hX
    have HB0 : Hid (Below (w.heap.size + 1) (w.alloc (.cells #[.int .i64 id, .slice s m cm] 29)) wr) := hb0
    clear hX hB hb0
    by_cases hlt : k < m
    · obtain ⟨b, off, rfl, hbb⟩ := HL.out.form (by omega)
      obtain ⟨t, cu, nn, hgk, hlw, g0, g1, g2⟩ := HL.out.leg hb hbb k hlt
      have HGK : Hid (L[k]? = some (t, cu, nn)) := hgk
      have hbk : b < wr.heap.size := Nat.lt_of_lt_of_le hbb hb.size
      have hXk : X < wr.heap.size := World.block_lt_of_cell? _ _ e0
      clear hgk hlw
      have hbd := balP_bd40 HBL.out t cu
      have hto := toP_bd (id, L) t cu
      obtain ⟨A0, hA0⟩ : ∃ A0, A0 = balP B t cu := ⟨_, rfl⟩
      obtain ⟨T0, hT0⟩ : ∃ T0, T0 = toP (id, L) t cu := ⟨_, rfl⟩
      have HA0 : Hid (A0 = balP B t cu) := hA0
      have HTS : Hid (T0 = atY (selY cu L) t.data.toList) := hT0.trans (toP_good HPB.out t cu)
      have HO : Hid (overL B (id, L) (t, cu, nn) = (decide (2000 < A0 + T0) || decide (A0 + T0 < -2000))) := overL_bool B (id, L) (t, cu, nn) (by rw [hA0, hT0])
      rw [← hA0] at hbd
      rw [← hT0] at hto
      obtain ⟨ha1, ha2⟩ := hbd
      obtain ⟨ht1, ht2⟩ := hto
      clear hA0 hT0
      go_upto_region 5 with fail
      obtain ⟨Y, hY⟩ : ∃ Y, Y = wr.heap.size := ⟨_, rfl⟩
      obtain ⟨W, hW⟩ : ∃ W, W = wr.alloc (.cells #[.string t, .int .i64 cu, .int .i64 nn] 69) := ⟨_, rfl⟩
      have kW : Below wr.heap.size wr W := by rw [hW]; exact (Below.refl _ _).alloc (Nat.le_refl _) _
      have y0 : W.cell? ⟨Y, 0, none⟩ = some (.string t) := by rw [hW, hY]; simp
      have y1 : W.cell? ⟨Y, 1, none⟩ = some (.int .i64 cu) := by rw [hW, hY]; simp
      have x0 := cell_later kW e0
      have x1 := cell_later kW e1
      have hBW : Below w.heap.size w W := hb.trans (kW.mono hb.size)
      have HBW : Hid (Below (w.heap.size + 1) (w.alloc (.cells #[.int .i64 id, .slice (some ⟨b, off, none⟩) m cm] 29)) W) := HB0.out.trans (kW.mono (by have := HB0.out.size; simpa using this))
      rw [← hW, ← hY]
      clear hW hY kW e0 e1 g0 g1 g2 hb hbk hXk HB0
      have hPW := HP.out.keep hBW
      have hLW := HL.out.keep hBW
      have HMK : Hid (∀ w', Below W.heap.size W w' → (w'.cell? ⟨Y, 0, none⟩ = some (.string t) ∧ w'.cell? ⟨Y, 1, none⟩ = some (.int .i64 cu) ∧ w'.cell? ⟨X, 0, none⟩ = some (.int .i64 id) ∧ w'.cell? ⟨X, 1, none⟩ = some (.slice (some ⟨b, off, none⟩) m cm) ∧ Below W.heap.size W w')) := fun w' k => ⟨cell_later k y0, cell_later k y1, cell_later k x0, cell_later k x1, k⟩
      go_region_held3 (fun w' => w'.cell? ⟨Y, 0, none⟩ = some (.string t) ∧ w'.cell? ⟨Y, 1, none⟩ = some (.int .i64 cu) ∧ w'.cell? ⟨X, 0, none⟩ = some (.int .i64 id) ∧ w'.cell? ⟨X, 1, none⟩ = some (.slice (some ⟨b, off, none⟩) m cm) ∧ Below W.heap.size W w') (first | exact HMK.out _ ((Below.refl _ W).drew) | exact HMK.out _ k1 | exact HMK.out _ k2) (first
        | (go_at_call 141; refine (l1To_any id cu t (some ⟨b, off, none⟩) m cm L _ (hLW.keep k1) (postB_legs HPB.out) (postB_len HPB.out)).mono ?_; rw [← HTS.out]; rintro e w2 ⟨rfl, hb2⟩; have k2 : Below W.heap.size W w2 := k1.trans (hb2.mono k1.size))
        | (go_at_call 140; refine (specBal t cu a n c B _ (hPW.keep ((Below.refl _ W).drew)) h40 HG.out).mono ?_; rw [← HA0.out]; rintro e w1 ⟨rfl, hb1⟩; have k1 : Below W.heap.size W w1 := ((Below.refl _ W).drew).trans hb1))
      all_goals
        have hBx : Below w.heap.size w w2 := hBW.trans (k2.mono hBW.size)
        have HBx : Hid (Below (w.heap.size + 1) (w.alloc (.cells #[.int .i64 id, .slice (some ⟨b, off, none⟩) m cm] 29)) w2) := HBW.out.trans (k2.mono (by have := HBW.out.size; simpa using this))
        clear k1 hb1 hb2 x0 x1 y0 y1 hPW hLW k2 hBW
        by_cases ho1 : 2000 < A0 + T0
        · go_wp2
          go_ret
          refine ⟨ret_bool (overP_yes (p := (id, L)) HGK.out (HO.out.trans ?_)).symm, hBx⟩
          simp [ho1]
        · by_cases ho2 : A0 + T0 < -2000
          · go_wp2
            go_ret
            refine ⟨ret_bool (overP_yes (p := (id, L)) HGK.out (HO.out.trans ?_)).symm, hBx⟩
            simp [ho2]
          · go_wp2
            go_roundw
            case rel => exact ⟨k + 1, by omega, by go_num, (by rw [HX.out]; exact HBx.out), over_take_no (p := (id, L)) HGK.out (HO.out.trans (by simp [ho1, ho2])) HNO.out⟩
            case measure => simp [intOf]; omega
    · go_wp2
      go_ret
      refine ⟨ret_bool ?_, hb⟩
      have := HNO.out
      rw [List.take_of_length_le (by rw [HLEN.out]; omega)] at this
      exact this.symm

set_option maxHeartbeats 1000000 in
theorem specCode (id : Int) (s : Option Addr) (m cm : Nat) (L : List LegD) (a : Option Addr) (n c : Nat) (B : List PostD) (w : World) (hP : PostsAt w a n c B) (hL : LegsAt w s m cm L) (h40 : n ≤ 40) (hg : ∀ p ∈ B, postB p.1 p.2 = true) :
    Calls Tryd.prog 83 #[.slice a n c, .agg #[.int .i64 id, .slice s m cm]] w fun e w' => e = .returned (.int .i64 (codeP B (id, L))) ∧ Below w.heap.size w w' := by
  have HLEN : Hid (B.length = n) := hP.length
  have HP : Hid (PostsAt w a n c B) := hP
  have HL : Hid (LegsAt w s m cm L) := hL
  have HG : Hid (∀ p ∈ B, postB p.1 p.2 = true) := hg
  have kB : Below w.heap.size w (w.alloc (.cells #[.int .i64 id, .slice s m cm] 29)) := (Below.refl _ _).alloc (Nat.le_refl _) _
  clear hP hL hg
  obtain ⟨X, hX⟩ : ∃ X, X = w.heap.size := ⟨_, rfl⟩
  obtain ⟨W, hW⟩ : ∃ W, W = w.alloc (.cells #[.int .i64 id, .slice s m cm] 29) := ⟨_, rfl⟩
  have x0 : W.cell? ⟨X, 0, none⟩ = some (.int .i64 id) := by rw [hW, hX]; simp
  have x1 : W.cell? ⟨X, 1, none⟩ = some (.slice s m cm) := by rw [hW, hX]; simp
  rw [← hW] at kB
  go_enter Tryd.func83, Tryd.ntmps83
  go_upto_region 1 with fail
  rw [← hW]
  simp only [← hX]
  clear hW hX
  cases hf : fairB id L with
  | false =>
    go_wp2_with (go_at_call 115; refine (specFair _ _ _ _ L _ (HL.out.keep kB)).mono ?_; rw [hf]; rintro e w1 ⟨rfl, hb1⟩)
    go_ret
    exact ⟨ret_int (by simp [codeP, hf]), kB.trans (hb1.mono kB.size)⟩
  | true =>
    go_wp2_with fail
    refine (specFair _ _ _ _ L _ (HL.out.keep kB)).mono ?_
    rw [hf]
    rintro e w1 ⟨rfl, hb1⟩
    have k1 : Below w.heap.size w w1 := kB.trans (hb1.mono kB.size)
    have x10 := cell_later hb1 x0
    have x11 := cell_later hb1 x1
    clear x0 x1 hb1 kB
    cases hh : hasP B id with
    | true =>
      go_wp2_with (go_at_call 116; refine (specHas _ _ _ _ B _ (HP.out.keep k1)).mono ?_; rw [hh]; rintro e w2 ⟨rfl, hb2⟩)
      go_ret
      exact ⟨ret_int (by simp [codeP, hf, hh]), k1.trans (hb2.mono k1.size)⟩
    | false =>
      go_wp2_with fail
      refine (specHas _ _ _ _ B _ (HP.out.keep k1)).mono ?_
      rw [hh]
      rintro e w2 ⟨rfl, hb2⟩
      have k2 : Below w.heap.size w w2 := k1.trans (hb2.mono k1.size)
      have x20 := cell_later hb2 x10
      have x21 := cell_later hb2 x11
      clear x10 x11 hb2 k1
      cases ho : overP B (id, L) with
      | true =>
        go_wp2_with (go_at_call 117; refine (specOver _ _ _ _ L _ _ _ B _ (HP.out.keep k2) (HL.out.keep k2) h40 HG.out (fair_post (p := (id, L)) hf)).mono ?_; rw [ho]; rintro e w3 ⟨rfl, hb3⟩)
        go_ret
        exact ⟨ret_int (by simp [codeP, hf, hh, ho]), k2.trans (hb3.mono k2.size)⟩
      | false =>
        go_wp2_with fail
        refine (specOver _ _ _ _ L _ _ _ B _ (HP.out.keep k2) (HL.out.keep k2) h40 HG.out (fair_post (p := (id, L)) hf)).mono ?_
        rw [ho]
        rintro e w3 ⟨rfl, hb3⟩
        have k3 : Below w.heap.size w w3 := k2.trans (hb3.mono k2.size)
        clear x20 x21 hb3 k2
        by_cases hn : 40 ≤ n
        · go_wp2
          go_ret
          exact ⟨ret_int (by simp [codeP, hf, hh, ho, HLEN.out, hn]), k3⟩
        · go_wp2
          go_ret
          exact ⟨ret_int (by simp [codeP, hf, hh, ho, HLEN.out, hn]), k3⟩

set_option maxHeartbeats 2000000 in
theorem specBookOk (a : Option Addr) (n c : Nat) (B : List PostD) (w : World) (hP : PostsAt w a n c B) :
    Calls Tryd.prog 45 #[.slice a n c] w fun e w' => e = .returned (.bool (bookB B)) ∧ Below w.heap.size w w' := by
  have HLEN : Hid (B.length = n) := hP.length
  have HP : Hid (PostsAt w a n c B) := hP
  have hr := hP.room
  have hbg := hP.big
  unfold maxLen at hbg
  clear hP
  by_cases h40 : 40 < n
  · go_enter Tryd.func45, Tryd.ntmps45
    go_wp2
    go_ret
    exact ⟨ret_bool (bookB_long (by rw [HLEN.out]; exact h40)).symm, Below.refl _ _⟩
  go_enter Tryd.func45, Tryd.ntmps45
  go_wp2
  go_loopw [3] (fun i wr => ∃ k : Nat, k ≤ n ∧ i = .int .i64 k ∧ Below w.heap.size w wr ∧ okUp B k = true) (fun i _ => n - (intOf i).toNat)
  case atStart => exact ⟨0, Nat.zero_le _, rfl, Below.refl _ _, rfl⟩
  case round =>
    obtain ⟨k, hk, rfl, hb, hok⟩ := hrel
    have HOK : Hid (okUp B k = true) := hok
    clear hok
    by_cases hlt : k < n
    · obtain ⟨b, off, rfl, hbb⟩ := HP.out.form (by omega)
      obtain ⟨id, L, s, m, cm, hgk, _, g0, g1, hLk⟩ := HP.out.post hb k hlt
      have HGK : Hid (B[k]? = some (id, L)) := hgk
      have HGD : Hid (∀ p ∈ B.take k, postB p.1 p.2 = true) := okUp_good (by rw [HLEN.out]; exact hk) HOK.out
      have hPk := (HP.out.keep hb).take hk
      have hltI : (k : Int) < (n : Int) := by omega
      have hkc : k ≤ c := by omega
      have hkc' : (k : Int) ≤ (c : Int) := by omega
      clear hgk
      have HMK : Hid (∀ w', Below wr.heap.size wr w' → (w'.cell? ⟨b, off + k * 2, none⟩ = some (.int .i64 id) ∧ w'.cell? ⟨b, off + k * 2 + 1, none⟩ = some (.slice s m cm) ∧ Below wr.heap.size wr w')) := fun w' k' => ⟨cell_later k' g0, cell_later k' g1, k'⟩
      by_cases hc : codeP (B.take k) (id, L) = 0
      · go_upto_region 6 with fail
        go_region_held3 (fun w' => w'.cell? ⟨b, off + k * 2, none⟩ = some (.int .i64 id) ∧ w'.cell? ⟨b, off + k * 2 + 1, none⟩ = some (.slice s m cm) ∧ Below wr.heap.size wr w') (first | exact HMK.out _ ((Below.refl _ wr).drew) | exact HMK.out _ k1) (first
          | (go_at_call 83; refine (specCode id s m cm L (some ⟨b, off, none⟩) k c (B.take k) _ (hPk.keep ((Below.refl _ wr).drew)) (hLk.keep ((Below.refl _ wr).drew)) (by omega) HGD.out).mono ?_; rw [hc]; rintro e w1 ⟨rfl, hb1⟩; have k1 : Below wr.heap.size wr w1 := ((Below.refl _ wr).drew).trans hb1))
        all_goals
          go_wp2
          go_roundw
          case rel => exact ⟨k + 1, by omega, by go_num, hb.trans (k1.mono hb.size), by rw [okUp_take HGK.out, HOK.out, hc]; rfl⟩
          case measure => simp [intOf]; omega
      · have HC : Hid (¬ codeP (B.take k) (id, L) = 0) := hc
        obtain ⟨C, hC⟩ : ∃ C, C = codeP (B.take k) (id, L) := ⟨_, rfl⟩
        have HCC : Hid (C = codeP (B.take k) (id, L)) := hC
        have hC0 : (C != 0) = true := by rw [hC]; simpa using hc
        clear hc hC
        go_upto_region 6 with fail
        go_region_held3 (fun w' => w'.cell? ⟨b, off + k * 2, none⟩ = some (.int .i64 id) ∧ w'.cell? ⟨b, off + k * 2 + 1, none⟩ = some (.slice s m cm) ∧ Below wr.heap.size wr w') (first | exact HMK.out _ ((Below.refl _ wr).drew) | exact HMK.out _ k1) (first
          | (go_at_call 83; refine (specCode id s m cm L (some ⟨b, off, none⟩) k c (B.take k) _ (hPk.keep ((Below.refl _ wr).drew)) (hLk.keep ((Below.refl _ wr).drew)) (by omega) HGD.out).mono ?_; rw [← HCC.out]; rintro e w1 ⟨rfl, hb1⟩; have k1 : Below wr.heap.size wr w1 := ((Below.refl _ wr).drew).trans hb1))
        all_goals
          go_wp2
          go_ret
          exact ⟨ret_bool (bookB_false HGK.out HC.out).symm, hb.trans (k1.mono hb.size)⟩
    · go_wp2
      go_ret
      refine ⟨ret_bool ?_, hb⟩
      have hkn : k = n := by omega
      have := HOK.out
      rw [hkn, ← HLEN.out] at this
      exact this.symm
end Go.Proofs.YtfblpbihpmhgjaaDoor
