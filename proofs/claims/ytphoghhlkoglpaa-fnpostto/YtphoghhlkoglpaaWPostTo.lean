/-
  The walk of the law FnPostTo: it answers true at all bytes.
-/
import Derived.Test.YtphoghhlkoglpaaBytes
import Derived.Test.YtphoghhlkoglpaaToP
import Derived.Test.YtphoghhlkoglpaaToS
import Derived.Test.YtphoghhlkoglpaaToI
import Derived.Test.YtphoghhlkoglpaaSumI
import Derived.Test.YtphoghhlkoglpaaSumS
import Derived.Test.YtphoghhlkoglpaaPostOkS
import Derived.Deep.RegionWith
namespace Go.Proofs.Ytphoghhlkoglpaa
open Go.RowKit

/-- None of the legs M is of the account s. -/
def freshB (M : List LegD) (s : ByteArray) : Bool := M.all (fun l => !(l.1.toList == s.toList))
theorem freshB_snoc {L : List LegD} {m : Nat} {l : LegD} (hl : L[m]? = some l) (s : ByteArray) : freshB (L.take (m + 1)) s = (freshB (L.take m) s && !(l.1.toList == s.toList)) := by
  unfold freshB; rw [List.take_add_one, hl]; simp
theorem freshB_yes {M : List LegD} {l : LegD} (h : freshB M l.1 = true) : ∀ l' ∈ M, ¬ keyD l' = keyD l := by
  unfold freshB at h
  rw [List.all_eq_true] at h
  intro l' hl' e
  have := h l' hl'
  rw [bytes_eq e] at this
  cases this
theorem freshB_no {M : List LegD} {l : LegD} (h : freshB M l.1 = false) : ∃ l' ∈ M, keyD l' = keyD l := by
  unfold freshB at h
  rw [List.all_eq_false] at h
  obtain ⟨l', h1, h2⟩ := h
  refine ⟨l', h1, Decidable.byContradiction fun e => ?_⟩
  rw [bytes_ne e] at h2
  exact h2 rfl

theorem few_none {s : ByteArray} (h : FewB s) : ¬ s.data.toList = (⟨#[110, 111, 110, 101]⟩ : ByteArray).data.toList := by
  exact h.2

set_option maxRecDepth 100000 in
set_option maxHeartbeats 4000000 in
theorem walkFnPostTo (a : Option Addr) (len cap : Nat) (w : World) (h : BytesAt w a len cap) :
    Calls Try.prog 4 #[.slice a len cap] w fun e w' => e = .returned (.bool true) ∧ Below w.heap.size w w' := by
  have H : Hid (BytesAt w a len cap) := h
  have hm := Nat.le_trans h.1 h.2.1
  unfold maxLen at hm
  clear h
  by_cases hb : 1048576 < len
  · go_enter Try.func4, Try.ntmps4
    go_wp2
    go_ret
    exact ⟨rfl, Below.refl _ _⟩
  go_enter Try.func4, Try.ntmps4
  go_wp2_with fail
  refine (drawTo_any _ _ _ _ H.out).mono ?_
  rintro e w1 ⟨id, b, n, c, L, acct, cur, rfl, hL1, hF, hn, hs, _, hB1⟩
  have kP : Below w1.heap.size w1 (w1.alloc (.cells #[.int .i64 id, .slice (some ⟨b, 0, none⟩) n c] 25)) := (Below.refl _ _).alloc (Nat.le_refl _) _
  have hL2 := hL1.keep kP
  have hB2 := hB1.trans (kP.mono hB1.size)
  have hzP := hB1.size
  have HF : Hid (∀ l ∈ L, FewB l.1) := hF
  clear hL1 hB1 kP hF
  go_wp2_with fail
  obtain ⟨B, hB⟩ : ∃ B, B = w1.heap.size := ⟨_, rfl⟩
  have p0 : (w1.alloc (.cells #[.int .i64 id, .slice (some ⟨b, 0, none⟩) n c] 25)).cell? ⟨B, 0, none⟩ = some (.int .i64 id) := by rw [hB]; simp
  have p1 : (w1.alloc (.cells #[.int .i64 id, .slice (some ⟨b, 0, none⟩) n c] 25)).cell? ⟨B, 1, none⟩ = some (.slice (some ⟨b, 0, none⟩) n c) := by rw [hB]; simp
  obtain ⟨w2, hw2⟩ : ∃ w2, w2 = w1.alloc (.cells #[.int .i64 id, .slice (some ⟨b, 0, none⟩) n c] 25) := ⟨_, rfl⟩
  rw [← hw2] at hL2 hB2 p0 p1 ⊢
  rw [← hB] at hzP
  simp only [← hB]
  clear hB hw2
  obtain ⟨N, hN⟩ : ∃ N, N = atY (yieldsOf id L cur) acct.data.toList := ⟨_, rfl⟩
  obtain ⟨T, hT⟩ : ∃ T, T = totY (yieldsOf id L cur) := ⟨_, rfl⟩
  have HN : Hid (N = atY (yieldsOf id L cur) acct.data.toList) := hN
  have HT : Hid (T = totY (yieldsOf id L cur)) := hT
  refine (implTo _ _ _ _ _ _ L _ hL2 hs).mono ?_
  rw [← hN]
  clear hN hT
  rintro e w3 ⟨rfl, b3⟩
  have hL3 := hL2.keep b3
  have hB3 := hB2.trans (b3.mono hB2.size)
  have p30 := cell_later b3 p0
  have p31 := cell_later b3 p1
  clear b3 p0 p1 hL2 hB2
  go_wp2_with fail
  have hL3d := hL3.keep ((Below.refl _ w3).drew)
  have hB3d := hB3.trans (((Below.refl _ w3).drew).mono hB3.size)
  go_cut [38] (fun s wx => s = .bool false ∧ LegsAt wx (some ⟨b, 0, none⟩) n c L ∧ Below w.heap.size w wx ∧ wx.cell? ⟨B, 0, none⟩ = some (.int .i64 id) ∧ wx.cell? ⟨B, 1, none⟩ = some (.slice (some ⟨b, 0, none⟩) n c))
  case first =>
    go_region_with (first
      | (go_at_call 24; refine (specSum id cur (some ⟨b, 0, none⟩) n c L _ hL5).mono ?_; rw [← HT.out]; rintro e w6 ⟨rfl, b6⟩; have hL6 := hL5.keep b6; have hB6 := hB5.trans (b6.mono hB5.size); have p60 := cell_later b6 p50; have p61 := cell_later b6 p51)
      | (go_at_call 20; refine (implSum id cur (some ⟨b, 0, none⟩) n c L _ hL4).mono ?_; rw [← HT.out]; rintro e w5 ⟨rfl, b5⟩; have hL5 := hL4.keep b5; have hB5 := hB4.trans (b5.mono hB4.size); have p50 := cell_later b5 p40; have p51 := cell_later b5 p41)
      | (go_at_call 23; refine (specTo id cur acct (some ⟨b, 0, none⟩) n c L _ hL3d).mono ?_; rw [← HN.out]; rintro e w4 ⟨rfl, b4⟩; have hL4 := hL3d.keep b4; have hB4 := hB3d.trans (b4.mono hB3d.size); have p40 := cell_later b4 p30; have p41 := cell_later b4 p31))
    all_goals
      go_wp2
      go_meet
      exact ⟨rfl, hL6, hB6, p60, p61⟩
  case rest =>
  obtain ⟨rfl, hL6, hB6, p60, p61⟩ := hcut
  clear hL3d hB3d hL3 hB3 p30 p31
  go_wp2_with fail
  refine (specPostOk _ _ _ _ L _ hL6).mono ?_
  rintro e w7 ⟨rfl, b7⟩
  have hL7 := hL6.keep b7
  have hB7 := hB6.trans (b7.mono hB6.size)
  have p70 := cell_later b7 p60
  have p71 := cell_later b7 p61
  clear b7 hL6 hB6 p60 p61
  cases hok : postB id L with
  | false =>
    have hy : yieldsOf id L cur = [] := by unfold yieldsOf; rw [if_neg (by rw [hok]; simp)]
    have eN : N = 0 := by rw [HN.out, hy]; rfl
    subst eN
    go_wp2_with fail
    refine (implSum id cur (some ⟨b, 0, none⟩) n c L _ hL7).mono ?_
    rw [hy]
    rintro e w8 ⟨rfl, b8⟩
    have eT : totY [] = 0 := rfl
    rw [eT]
    go_wp2
    go_ret
    exact ⟨rfl, hB7.trans (b8.mono hB7.size)⟩
  | true =>
    go_wp2_with fail
    have hr := hL7.room
    have hbg := hL7.big
    unfold maxLen at hbg
    have HLEN : Hid (L.length = n) := hL7.length
    obtain ⟨ys, hys⟩ : ∃ ys, ys = yieldsOf id L cur := ⟨_, rfl⟩
    have h4 := postB_len hok
    have hy4 : ys.length ≤ 4 := by rw [hys]; exact yieldsOf_len _ _ _
    have HY : Hid (ys = yieldsOf id L cur) := hys
    have H4 : Hid (L.length ≤ 4) := h4
    have HY4 : Hid (ys.length ≤ 4) := hy4
    clear hys h4 hy4
    go_loopw [7, 8, 9, 10] (fun sm i _ _ wr => ∃ j : Nat, j ≤ n ∧ i = .int .i64 j ∧ sm = .int .i64 (sumD ys (L.take j)) ∧ LegsAt wr (some ⟨b, 0, none⟩) n c L ∧ Below w.heap.size w wr ∧ wr.cell? ⟨B, 0, none⟩ = some (.int .i64 id) ∧ wr.cell? ⟨B, 1, none⟩ = some (.slice (some ⟨b, 0, none⟩) n c)) (fun _ i _ _ _ => n - (intOf i).toNat)
    case atStart => exact ⟨0, Nat.zero_le _, rfl, rfl, hL7, hB7, p70, p71⟩
    case round =>
      clear hL7 hB7 p70 p71
      obtain ⟨j, hj, rfl, rfl, hL8, hB8, p80, p81⟩ := hrel
      obtain ⟨S, hS⟩ : ∃ S, S = sumD ys (L.take j) := ⟨_, rfl⟩
      have HS : Hid (S = sumD ys (L.take j)) := hS
      rw [← hS]
      have bS := sumD_bd ys HY4.out (L.take j) (by have := H4.out; simp; omega)
      rw [← hS] at bS
      obtain ⟨bS1, bS2⟩ := bS
      clear hS
      by_cases hlt : j < n
      · have hltI : (j : Int) < (n : Int) := by omega
        have hbb : b < wr.heap.size := (hL8.lies _ rfl (by omega)).1
        obtain ⟨sj, cj, nj, hgj, hlwj, _, _, _⟩ := hL8.leg (Below.refl _ wr) hbb j hlt
        have HGj : Hid (L[j]? = some (sj, cj, nj)) := hgj
        have hsj : sj.size ≤ maxLen := hlwj.1
        clear hgj hlwj hbb
        go_wp2_with fail
        go_loopw [9, 10] (fun f kk wi => ∃ m : Nat, m ≤ j ∧ kk = .int .i64 m ∧ f = .bool (freshB (L.take m) sj) ∧ LegsAt wi (some ⟨b, 0, none⟩) n c L ∧ Below w.heap.size w wi ∧ wi.cell? ⟨B, 0, none⟩ = some (.int .i64 id) ∧ wi.cell? ⟨B, 1, none⟩ = some (.slice (some ⟨b, 0, none⟩) n c)) (fun _ kk _ => j - (intOf kk).toNat)
        case atStart => exact ⟨0, Nat.zero_le _, rfl, rfl, hL8, hB8, p80, p81⟩
        case round =>
          clear hL8 hB8 p80 p81
          obtain ⟨m, hm', rfl, rfl, hL9, hB9, p90, p91⟩ := hrel
          by_cases hmj : m < j
          · have hmjI : (m : Int) < (j : Int) := by omega
            have hmn : m < n := by omega
            have hmnI : (m : Int) < (n : Int) := by omega
            have hbb : b < wr.heap.size := (hL9.lies _ rfl (by omega)).1
            obtain ⟨sm, cm, nm, hgm, _, gm0, _, _⟩ := hL9.leg (Below.refl _ wr) hbb m hmn
            obtain ⟨sj', cj', nj', hgj', _, gj0, _, _⟩ := hL9.leg (Below.refl _ wr) hbb j hlt
            have ej := hgj'.symm.trans HGj.out
            simp only [Option.some.injEq, Prod.mk.injEq] at ej
            obtain ⟨rfl, rfl, rfl⟩ := ej
            simp only [Nat.zero_add] at gm0 gj0
            have HFS : Hid (freshB (L.take (m + 1)) sj' = (freshB (L.take m) sj' && !(sm.toList == sj'.toList))) := freshB_snoc hgm sj'
            have hL9d := hL9.keep ((Below.refl _ wr).drew)
            have hB9d := hB9.trans (((Below.refl _ wr).drew).mono hB9.size)
            clear hgm hgj'
            cases hfr : freshB (L.take m) sj' with
            | false =>
              go_wp2_with fail
              go_region
              all_goals
                go_wp2
                refine ⟨⟨m + 1, by omega, by go_num, ?_, hL9d, hB9d, p90, p91⟩, by simp [intOf]; omega⟩
                rw [HFS.out, hfr]
                rfl
            | true =>
              cases hse : (sm.toList == sj'.toList) with
              | false =>
                go_wp2_with fail
                go_region
                all_goals
                  go_wp2
                  refine ⟨⟨m + 1, by omega, by go_num, ?_, hL9d, hB9d, p90, p91⟩, by simp [intOf]; omega⟩
                  rw [HFS.out, hfr]
                  rw [hse]; rfl
              | true =>
                go_wp2_with fail
                go_region
                all_goals
                  go_wp2
                  refine ⟨⟨m + 1, by omega, by go_num, ?_, hL9d, hB9d, p90, p91⟩, by simp [intOf]; omega⟩
                  rw [HFS.out, hfr]
                  rw [hse]; rfl
          · have hmjI : ¬ (m : Int) < (j : Int) := by omega
            obtain rfl : m = j := by omega
            cases hfr : freshB (L.take m) sj with
            | false =>
              go_wp2_with fail
              refine ⟨⟨m + 1, by omega, by go_num, ?_, hL9, hB9, p90, p91⟩, by simp [intOf]; omega⟩
              rw [sumD_no HGj.out (freshB_no (l := (sj, cj, nj)) hfr), ← HS.out]
            | true =>
              obtain ⟨A, hA⟩ : ∃ A, A = atY (yieldsOf id L cur) sj.data.toList := ⟨_, rfl⟩
              have HA : Hid (A = atY (yieldsOf id L cur) sj.data.toList) := hA
              have bA := atY_bd (yieldsOf id L cur) sj.data.toList
              have bA4 := yieldsOf_len id L cur
              rw [← hA] at bA
              have bA1 : -4000 ≤ A := by omega
              have bA2 : A ≤ 4000 := by omega
              have hbb : b < wr.heap.size := (hL9.lies _ rfl (by omega)).1
              obtain ⟨sj', cj', nj', hgj', _, gj0, _, _⟩ := hL9.leg (Below.refl _ wr) hbb m hlt
              have ej := hgj'.symm.trans HGj.out
              simp only [Option.some.injEq, Prod.mk.injEq] at ej
              obtain ⟨rfl, rfl, rfl⟩ := ej
              simp only [Nat.zero_add] at gj0
              have hL9d := hL9.keep ((Below.refl _ wr).drew)
              have hB9d := hB9.trans (((Below.refl _ wr).drew).mono hB9.size)
              clear hA bA bA4 hgj'
              go_wp2_with fail
              go_region_with (go_at_call 22; refine (implTo id cur sj' (some ⟨b, 0, none⟩) n c L _ hL9d hsj).mono ?_; rw [← HA.out]; rintro e w10 ⟨rfl, b10⟩; have hL10 := hL9d.keep b10; have hB10 := hB9d.trans (b10.mono hB9d.size); have p100 := cell_later b10 p90; have p101 := cell_later b10 p91)
              all_goals
                go_wp2
                refine ⟨⟨m + 1, by omega, by go_num, ?_, hL10, hB10, p100, p101⟩, by simp [intOf]; omega⟩
                rw [sumD_yes HGj.out (freshB_yes (l := (sj', cj', nj')) hfr), ← HS.out, HY.out]
                exact congrArg _ (congrArg _ HA.out)
      · have hltI : ¬ (j : Int) < (n : Int) := by omega
        obtain rfl : j = n := by omega
        have eS : S = T := by rw [HS.out, List.take_of_length_le (by rw [HLEN.out]; exact Nat.le_refl _), HY.out, sumD_all, HT.out]
        subst eS
        go_wp2_with fail
        refine (implSum id cur (some ⟨b, 0, none⟩) _ c L _ hL8).mono ?_
        rw [← HT.out]
        rintro e w9 ⟨rfl, b9⟩
        have hL9 := hL8.keep b9
        have hB9 := hB8.trans (b9.mono hB8.size)
        have p90 := cell_later b9 p80
        have p91 := cell_later b9 p81
        clear b9 p80 p81 hL8 hB8
        go_wp2_with fail
        have eZ : atY (yieldsOf id L cur) (⟨#[110, 111, 110, 101]⟩ : ByteArray).data.toList = 0 := none_brings id cur L _ (fun l hl e => few_none (HF.out l hl) e)
        refine (implTo id cur ⟨#[110, 111, 110, 101]⟩ (some ⟨b, 0, none⟩) _ c L _ hL9 (by decide)).mono ?_
        rw [eZ]
        rintro e w10 ⟨rfl, b10⟩
        clear eZ
        go_wp2
        go_ret
        exact ⟨rfl, hB9.trans (b10.mono hB9.size)⟩
end Go.Proofs.Ytphoghhlkoglpaa
