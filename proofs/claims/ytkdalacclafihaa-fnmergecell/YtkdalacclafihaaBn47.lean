/-
  The library's stable sort of entries by their times, at any number of them: it leaves them in the order of their times, those of one time as they stood; by a walk of its Go text.
-/
import Derived.Test.YtkdalacclafihaaBn46
namespace Go.Proofs.Ytkdalacclafihaa
open Go.RowKit

attribute [local go_sem] Oper.semAt_some

theorem chS_two {bs : Nat} (hb : 1 ≤ bs) (R : List EntD) : chS bs R = cutC (R.take bs) ++ (cutC ((R.drop bs).take bs) ++ chS bs (R.drop (2 * bs))) := by
  rw [chS_go hb R, chS_go hb (R.drop bs), List.drop_drop, show bs + bs = 2 * bs by omega]
theorem mrg_two (bs : Nat) (R : List EntD) : mrg (cutC (R.take bs)) (cutC ((R.drop bs).take bs)) = cutC (R.take (2 * bs)) := by
  have h := cut_two bs (R.take (2 * bs))
  rw [List.take_take, List.drop_take, Nat.min_eq_left (by omega), show 2 * bs - bs = bs by omega] at h
  exact h

set_option maxRecDepth 100000 in
set_option maxHeartbeats 16000000 in
theorem stableAll (base g n c : Nat) (L : List EntD) (w : World) (hO : OwnE w base g n c L) (hn : n ≤ 1048576) :
    Calls Try.prog 70 #[.slice (some ⟨g, 0, none⟩) n c, .int .i64 n, .func (.func 48) #[] #[]] w fun e w' => e = .returned (.tuple #[]) ∧ OwnE w' base g n c (cutC L) ∧ w.grownBy w' (some g) := by
  have HLN : Hid (L.length = n) := hO.len
  have HO : Hid (OwnE w base g n c L) := hO
  clear hO
  go_enter Try.func70, Try.ntmps70
  go_wp2
  go_loopw [7, 8] (fun va vb wr => ∃ (a : Nat) (Zs : List EntD), va = .int .i64 a ∧ vb = .int .i64 ((a + 20 : Nat) : Int) ∧ a ≤ n ∧ Zs.length = a ∧ chS 20 L = Zs ++ chS 20 (L.drop a) ∧ OwnE wr base g n c (Zs ++ L.drop a) ∧ w.grownBy wr (some g)) (fun va _ _ => n - (intOf va).toNat)
  case atStart => exact ⟨0, [], rfl, rfl, Nat.zero_le _, rfl, by simp, by simpa using HO.out, ⟨rfl, rfl, rfl, Nat.le_refl _, fun _ _ _ => rfl⟩⟩
  case round =>
    obtain ⟨a, Zs, rfl, rfl, han, hz, hch, hO1, hG1⟩ := hrel
    have HZ : Hid (Zs.length = a) := hz
    have HCH : Hid (chS 20 L = Zs ++ chS 20 (L.drop a)) := hch
    have HO1 : Hid (OwnE wr base g n c (Zs ++ L.drop a)) := hO1
    have HG1 : Hid (w.grownBy wr (some g)) := hG1
    clear hz hch hO1 hG1 HO
    obtain ⟨b, hb⟩ : ∃ b, b = a + 20 := ⟨_, rfl⟩
    rw [← hb]
    by_cases hbn : b ≤ n
    · have hbI : (b : Int) ≤ (n : Int) := by omega
      have rb : IntKind.i64.wrap ((b : Int) + 20) = ((b + 20 : Nat) : Int) := by rw [IntKind.wrap_i64]; omega
      have hsp : L.drop a = (L.drop a).take 20 ++ L.drop b := by rw [hb, ← List.drop_drop, List.take_append_drop]
      have hxl : ((L.drop a).take 20).length = 20 := by have := HLN.out; simp; omega
      have HO2 : Hid (OwnE wr base g n c (Zs ++ ((L.drop a).take 20 ++ L.drop b))) := by have := HO1.out; rw [hsp] at this; exact this
      have HCH2 : Hid (chS 20 L = (Zs ++ cutC ((L.drop a).take 20)) ++ chS 20 (L.drop b)) := by
        show chS 20 L = _
        rw [HCH.out, chS_go (by omega) (L.drop a), List.drop_drop, ← hb, List.append_assoc]
      have HZ2 : Hid ((Zs ++ cutC ((L.drop a).take 20)).length = b) := by show _ = b; rw [List.length_append, cutC_len, hxl, HZ.out, hb]
      have HBE : Hid (b = Zs.length + ((L.drop a).take 20).length) := by show b = _; rw [hxl, HZ.out]; exact hb
      have HAB : Hid (a < b) := by show a < b; omega
      clear hsp hxl hb
      go_wp2_with fail
      refine (insPart base g n c Zs ((L.drop a).take 20) (L.drop b) a b _ HO2.out HZ.out.symm HBE.out hn).mono ?_
      rintro e w1 ⟨rfl, hO3, hG3⟩
      have HO3 : Hid (OwnE w1 base g n c ((Zs ++ cutC ((L.drop a).take 20)) ++ L.drop b)) := by simpa [Hid] using hO3
      have HG3 : Hid (w.grownBy w1 (some g)) := grown_trans HG1.out hG3
      clear hO3 hG3
      go_wp2
      go_roundw
      case rel => exact ⟨b, _, rfl, rfl, hbn, HZ2.out, HCH2.out, HO3.out, HG3.out⟩
      case measure => have := HAB.out; simp [intOf]; omega
    · have hbI : ¬ (b : Int) ≤ (n : Int) := by omega
      have HO2 : Hid (OwnE wr base g n c (Zs ++ (L.drop a ++ []))) := by simpa [Hid] using HO1.out
      have HNE : Hid (n = Zs.length + (L.drop a).length) := by show n = _; have := HLN.out; have := HZ.out; rw [List.length_drop]; omega
      have HFW : Hid (chS 20 L = Zs ++ cutC (L.drop a)) := by show chS 20 L = _; rw [HCH.out, chS_few (by have := HLN.out; rw [List.length_drop]; omega)]
      clear hb
      go_wp2_with fail
      refine (insPart base g n c Zs (L.drop a) [] a n _ HO2.out HZ.out.symm HNE.out hn).mono ?_
      rintro e w1 ⟨rfl, hO3, hG3⟩
      have HO3 : Hid (OwnE w1 base g n c (chS 20 L)) := by rw [HFW.out]; simpa [Hid] using hO3
      have HG3 : Hid (w.grownBy w1 (some g)) := grown_trans HG1.out hG3
      clear hO3 hG3 HO1 HG1 HO2
      go_wp2
      go_loopw [6] (fun vb wq => ∃ bs : Nat, vb = .int .i64 bs ∧ 20 ≤ bs ∧ bs ≤ 2097152 ∧ OwnE wq base g n c (chS bs L) ∧ w.grownBy wq (some g)) (fun vb _ => 4194304 - (intOf vb).toNat)
      case atStart => exact ⟨20, rfl, Nat.le_refl _, by omega, HO3.out, HG3.out⟩
      case round =>
      rename World => wo
      obtain ⟨bs, rfl, hb20, hbm, hO4, hG4⟩ := hrel
      have HO4 : Hid (OwnE wo base g n c (chS bs L)) := hO4
      have HG4 : Hid (w.grownBy wo (some g)) := hG4
      clear hO4 hG4 HO3 HG3
      by_cases hbs : bs < n
      · have hbsI : (bs : Int) < (n : Int) := by omega
        obtain ⟨d, hd⟩ : ∃ d, d = 2 * bs := ⟨_, rfl⟩
        have r2 : IntKind.i64.wrap (2 * (bs : Int)) = (d : Int) := by rw [IntKind.wrap_i64]; omega
        have r2' : IntKind.i64.wrap ((bs : Int) * 2) = (d : Int) := by rw [IntKind.wrap_i64]; omega
        have HDB : Hid (d = 2 * bs) := hd
        have HB20 : Hid (20 ≤ bs) := hb20
        have HBN : Hid (bs < n) := hbs
        clear hd hb20 hbm hbs
        go_wp2
        go_loopw [7, 8] (fun va vb wr => ∃ (a : Nat) (Zs : List EntD), va = .int .i64 a ∧ vb = .int .i64 ((a + d : Nat) : Int) ∧ a ≤ n ∧ Zs.length = a ∧ chS d L = Zs ++ chS d (L.drop a) ∧ OwnE wr base g n c (Zs ++ chS bs (L.drop a)) ∧ w.grownBy wr (some g)) (fun va _ _ => n - (intOf va).toNat)
        case atStart => exact ⟨0, [], rfl, by rw [Nat.zero_add], Nat.zero_le _, rfl, by simp, by simpa using HO4.out, HG4.out⟩
        case round =>
        obtain ⟨a, Zs, rfl, rfl, han, hz, hch, hO5, hG5⟩ := hrel
        have HZ : Hid (Zs.length = a) := hz
        have HCH : Hid (chS d L = Zs ++ chS d (L.drop a)) := hch
        have HO5 : Hid (OwnE wr base g n c (Zs ++ chS bs (L.drop a))) := hO5
        have HG5 : Hid (w.grownBy wr (some g)) := hG5
        clear hz hch hO5 hG5 HO4
        obtain ⟨b, hb⟩ : ∃ b, b = a + d := ⟨_, rfl⟩
        rw [← hb]
        obtain ⟨m, hm⟩ : ∃ m, m = a + bs := ⟨_, rfl⟩
        have hbm : b = m + bs := by have := HDB.out; omega
        have rm : IntKind.i64.wrap ((a : Int) + (bs : Int)) = (m : Int) := by have := HBN.out; rw [IntKind.wrap_i64]; omega
        by_cases hbn : b ≤ n
        · have hbI : (b : Int) ≤ (n : Int) := by omega
          have rb : IntKind.i64.wrap ((b : Int) + (d : Int)) = ((b + d : Nat) : Int) := by have := HBN.out; have := HDB.out; rw [IntKind.wrap_i64]; omega
          have hxl : ((L.drop a).take bs).length = bs := by have := HLN.out; simp; omega
          have hyl : ((L.drop m).take bs).length = bs := by have := HLN.out; simp; omega
          have hsp : chS bs (L.drop a) = cutC ((L.drop a).take bs) ++ (cutC ((L.drop m).take bs) ++ chS bs (L.drop b)) := by
            have h := chS_two (show 1 ≤ bs by have := HB20.out; omega) (L.drop a)
            rw [List.drop_drop, List.drop_drop, ← hm, ← HDB.out, ← hb] at h
            exact h
          have HO6 : Hid (OwnE wr base g n c (Zs ++ (cutC ((L.drop a).take bs) ++ (cutC ((L.drop m).take bs) ++ chS bs (L.drop b))))) := by have := HO5.out; rw [hsp] at this; exact this
          have HMG : Hid (mrg (cutC ((L.drop a).take bs)) (cutC ((L.drop m).take bs)) = cutC ((L.drop a).take d)) := by
            show _ = _
            have h := mrg_two bs (L.drop a)
            rw [List.drop_drop, ← hm, ← HDB.out] at h
            exact h
          have HCH2 : Hid (chS d L = (Zs ++ cutC ((L.drop a).take d)) ++ chS d (L.drop b)) := by
            show chS d L = _
            rw [HCH.out, chS_go (by have := HB20.out; have := HDB.out; omega) (L.drop a), List.drop_drop, ← hb, List.append_assoc]
          have HZ2 : Hid ((Zs ++ cutC ((L.drop a).take d)).length = b) := by
            show _ = b
            have := HLN.out; have := HZ.out
            rw [List.length_append, cutC_len, List.length_take, List.length_drop]; omega
          have HXL : Hid (1 ≤ (cutC ((L.drop a).take bs)).length) := by show _ ≤ _; rw [cutC_len, hxl]; have := HB20.out; omega
          have HYL : Hid (1 ≤ (cutC ((L.drop m).take bs)).length) := by show _ ≤ _; rw [cutC_len, hyl]; have := HB20.out; omega
          have HME : Hid (m = a + (cutC ((L.drop a).take bs)).length) := by show m = _; rw [cutC_len, hxl]; exact hm
          have HBE : Hid (b = m + (cutC ((L.drop m).take bs)).length) := by show b = _; rw [cutC_len, hyl]; exact hbm
          have HAB : Hid (a < b) := by show a < b; have := HB20.out; omega
          have HBL : Hid (b ≤ n) := hbn
          clear hsp hxl hyl hb hm hbm hbn
          go_wp2_with fail
          refine (symMerge base g n c hn _ Zs (cutC ((L.drop a).take bs)) (cutC ((L.drop m).take bs)) (chS bs (L.drop b)) a m b _ (Nat.le_refl _) HO6.out (cutC_sorted _) (cutC_sorted _) HXL.out HYL.out HZ.out.symm HME.out HBE.out).mono ?_
          rintro e w1 ⟨rfl, hO7, hG7⟩
          have HO7 : Hid (OwnE w1 base g n c ((Zs ++ cutC ((L.drop a).take d)) ++ chS bs (L.drop b))) := by show OwnE _ _ _ _ _ _; rw [← HMG.out, List.append_assoc]; exact hO7
          have HG7 : Hid (w.grownBy w1 (some g)) := grown_trans HG5.out hG7
          clear hO7 hG7
          go_wp2
          go_roundw
          case rel => exact ⟨b, _, rfl, rfl, HBL.out, HZ2.out, HCH2.out, HO7.out, HG7.out⟩
          case measure => have := HAB.out; have := HBL.out; simp [intOf]; omega
        · have hbI : ¬ (b : Int) ≤ (n : Int) := by omega
          have HFD : Hid (chS d L = Zs ++ cutC (L.drop a)) := by show chS d L = _; rw [HCH.out, chS_few (by have := HLN.out; rw [List.length_drop]; omega)]
          by_cases hmn : m < n
          · have hmI : (m : Int) < (n : Int) := by omega
            have hxl : ((L.drop a).take bs).length = bs := by have := HLN.out; simp; omega
            have hyl : (L.drop m).length = n - m := by have := HLN.out; rw [List.length_drop]; omega
            have hsp : chS bs (L.drop a) = cutC ((L.drop a).take bs) ++ (cutC (L.drop m) ++ []) := by
              rw [chS_go (show 1 ≤ bs by have := HB20.out; omega) (L.drop a), List.drop_drop, ← hm, chS_few (by rw [hyl]; omega), List.append_nil]
            have HO6 : Hid (OwnE wr base g n c (Zs ++ (cutC ((L.drop a).take bs) ++ (cutC (L.drop m) ++ [])))) := by have := HO5.out; rw [hsp] at this; exact this
            have HMG : Hid (mrg (cutC ((L.drop a).take bs)) (cutC (L.drop m)) = cutC (L.drop a)) := by
              show _ = _
              have h := cut_two bs (L.drop a)
              rw [List.drop_drop, ← hm] at h
              exact h
            have HXL : Hid (1 ≤ (cutC ((L.drop a).take bs)).length) := by show _ ≤ _; rw [cutC_len, hxl]; have := HB20.out; omega
            have HYL : Hid (1 ≤ (cutC (L.drop m)).length) := by show _ ≤ _; rw [cutC_len, hyl]; omega
            have HME : Hid (m = a + (cutC ((L.drop a).take bs)).length) := by show m = _; rw [cutC_len, hxl]; exact hm
            have HBE : Hid (n = m + (cutC (L.drop m)).length) := by show n = _; rw [cutC_len, hyl]; omega
            clear hsp hxl hyl hb hm hbm hbn hmn
            go_wp2_with fail
            refine (symMerge base g n c hn _ Zs (cutC ((L.drop a).take bs)) (cutC (L.drop m)) [] a m n _ (Nat.le_refl _) HO6.out (cutC_sorted _) (cutC_sorted _) HXL.out HYL.out HZ.out.symm HME.out HBE.out).mono ?_
            rintro e w1 ⟨rfl, hO7, hG7⟩
            have HO7 : Hid (OwnE w1 base g n c (chS d L)) := by show OwnE _ _ _ _ _ _; rw [HFD.out, ← HMG.out]; rw [List.append_nil] at hO7; exact hO7
            have HG7 : Hid (w.grownBy w1 (some g)) := grown_trans HG5.out hG7
            clear hO7 hG7
            go_wp2
            go_roundw
            case rel => exact ⟨d, rfl, by have := HDB.out; have := HB20.out; omega, by have := HDB.out; have := HBN.out; omega, HO7.out, HG7.out⟩
            case measure => have := HDB.out; have := HB20.out; have := HBN.out; simp [intOf]; omega
          · have hmI : ¬ (m : Int) < (n : Int) := by omega
            have HO7 : Hid (OwnE wr base g n c (chS d L)) := by
              show OwnE _ _ _ _ _ _
              have h := HO5.out
              rw [chS_few (by have := HLN.out; rw [List.length_drop]; omega), ← HFD.out] at h
              exact h
            clear hb hm hbm hbn hmn HO5
            go_wp2
            go_roundw
            case rel => exact ⟨d, rfl, by have := HDB.out; have := HB20.out; omega, by have := HDB.out; have := HBN.out; omega, HO7.out, HG5.out⟩
            case measure => have := HDB.out; have := HB20.out; have := HBN.out; simp [intOf]; omega
      · have hbsI : ¬ (bs : Int) < (n : Int) := by omega
        have HD : Hid (OwnE wo base g n c (cutC L)) := by have := HO4.out; rw [chS_few (by rw [HLN.out]; omega)] at this; exact this
        clear HO4
        go_wp2
        go_end0
        exact ⟨rfl, HD.out, HG4.out⟩
end Go.Proofs.Ytkdalacclafihaa
