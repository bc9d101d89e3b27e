/-
  The library's stable sort of entries by their times, at any number of them: it leaves them in the order of their times, those of one time as they stood; by a walk of its Go text.
  What the program's CellDo makes of every cell and every entry, by walks of its Go text.
  What the kind of an entry does to a cell, whatever kind it is, as the program's calls through its interface come to it.
-/
import Derived.Test.YthhiahjafhkbbaaGreatBn48
import Derived.Test.YthhiahjafhkbbaaGreatBn09
import Derived.Test.YthhiahjafhkbbaaGreatBn22
import Derived.Test.YthhiahjafhkbbaaGreatBn02
import Derived.Test.YthhiahjafhkbbaaGreatBn10
namespace Go.Proofs.YthhiahjafhkbbaaGreat
open Go.RowKit

attribute [local go_sem] Oper.semAt_some

theorem chS_two {bs : Nat} (hb : 1 ≤ bs) (R : List EntD) : chS bs R = cutC (R.take bs) ++ (cutC ((R.drop bs).take bs) ++ chS bs (R.drop (2 * bs))) := by
  rw [chS_go hb R, chS_go hb (R.drop bs), List.drop_drop, show bs + bs = 2 * bs by omega]
theorem mrg_two (bs : Nat) (R : List EntD) : mrg (cutC (R.take bs)) (cutC ((R.drop bs).take bs)) = cutC (R.take (2 * bs)) := by
  have h := cut_two bs (R.take (2 * bs))
  rw [List.take_take, List.drop_take, Nat.min_eq_left (by omega), show 2 * bs - bs = bs by omega] at h
  exact h

set_option maxRecDepth 100000 in
set_option maxHeartbeats 16000000 in
theorem stableAll (base g n c : Nat) (L : List EntD) (w : World) (hO : OwnE w base g n c L) (hn : n ≤ 1048576) :
    Calls Tryz.prog 92 #[.slice (some ⟨g, 0, none⟩) n c, .int .i64 n, .func (.func 46) #[] #[]] w fun e w' => e = .returned (.tuple #[]) ∧ OwnE w' base g n c (cutC L) ∧ w.grownBy w' (some g) := by
  have HLN : Hid (L.length = n) := hO.len
  have HO : Hid (OwnE w base g n c L) := hO
  clear hO
  go_enter Tryz.func92, Tryz.ntmps92
  go_wp2
  go_loopw [7, 8] (fun va vb wr => ∃ (a : Nat) (Zs : List EntD), va = .int .i64 a ∧ vb = .int .i64 ((a + 20 : Nat) : Int) ∧ a ≤ n ∧ Zs.length = a ∧ chS 20 L = Zs ++ chS 20 (L.drop a) ∧ OwnE wr base g n c (Zs ++ L.drop a) ∧ w.grownBy wr (some g)) (fun va _ _ => n - (intOf va).toNat)
  case atStart => exact ⟨0, [], rfl, rfl, Nat.zero_le _, rfl, by simp, by simpa using HO.out, ⟨rfl, rfl, rfl, Nat.le_refl _, fun _ _ _ => rfl⟩⟩
  case round =>
    obtain ⟨a, Zs, rfl, rfl, han, hz, hch, hO1, hG1⟩ := hrel
    have HZ : Hid (Zs.length = a) := hz
    have HCH : Hid (chS 20 L = Zs ++ chS 20 (L.drop a)) := hch
    have HO1 : Hid (OwnE wr base g n c (Zs ++ L.drop a)) := hO1
    have HG1 : Hid (w.grownBy wr (some g)) := hG1
    clear hz hch hO1 hG1 HO
    obtain ⟨b, hb⟩ : ∃ b, b = a + 20 := ⟨_, rfl⟩
    rw [← hb]
    by_cases hbn : b ≤ n
    · have hbI : (b : Int) ≤ (n : Int) := by omega
      have rb : IntKind.i64.wrap ((b : Int) + 20) = ((b + 20 : Nat) : Int) := by rw [IntKind.wrap_i64]; omega
      have hsp : L.drop a = (L.drop a).take 20 ++ L.drop b := by rw [hb, ← List.drop_drop, List.take_append_drop]
      have hxl : ((L.drop a).take 20).length = 20 := by have := HLN.out; simp; omega
      have HO2 : Hid (OwnE wr base g n c (Zs ++ ((L.drop a).take 20 ++ L.drop b))) := by have := HO1.out; rw [hsp] at this; exact this
      have HCH2 : Hid (chS 20 L = (Zs ++ cutC ((L.drop a).take 20)) ++ chS 20 (L.drop b)) := by
        show chS 20 L = _
        rw [HCH.out, chS_go (by omega) (L.drop a), List.drop_drop, ← hb, List.append_assoc]
      have HZ2 : Hid ((Zs ++ cutC ((L.drop a).take 20)).length = b) := by show _ = b; rw [List.length_append, cutC_len, hxl, HZ.out, hb]
      have HBE : Hid (b = Zs.length + ((L.drop a).take 20).length) := by show b = _; rw [hxl, HZ.out]; exact hb
      have HAB : Hid (a < b) := by show a < b; omega
      clear hsp hxl hb
      go_wp2_with fail
      refine (insPart base g n c Zs ((L.drop a).take 20) (L.drop b) a b _ HO2.out HZ.out.symm HBE.out hn).mono ?_
      rintro e w1 ⟨rfl, hO3, hG3⟩
      have HO3 : Hid (OwnE w1 base g n c ((Zs ++ cutC ((L.drop a).take 20)) ++ L.drop b)) := by simpa [Hid] using hO3
      have HG3 : Hid (w.grownBy w1 (some g)) := grown_trans HG1.out hG3
      clear hO3 hG3
      go_wp2
      go_roundw
      case rel => exact ⟨b, _, rfl, rfl, hbn, HZ2.out, HCH2.out, HO3.out, HG3.out⟩
      case measure => have := HAB.out; simp [intOf]; omega
    · have hbI : ¬ (b : Int) ≤ (n : Int) := by omega
      have HO2 : Hid (OwnE wr base g n c (Zs ++ (L.drop a ++ []))) := by simpa [Hid] using HO1.out
      have HNE : Hid (n = Zs.length + (L.drop a).length) := by show n = _; have := HLN.out; have := HZ.out; rw [List.length_drop]; omega
      have HFW : Hid (chS 20 L = Zs ++ cutC (L.drop a)) := by show chS 20 L = _; rw [HCH.out, chS_few (by have := HLN.out; rw [List.length_drop]; omega)]
      clear hb
      go_wp2_with fail
      refine (insPart base g n c Zs (L.drop a) [] a n _ HO2.out HZ.out.symm HNE.out hn).mono ?_
      rintro e w1 ⟨rfl, hO3, hG3⟩
      have HO3 : Hid (OwnE w1 base g n c (chS 20 L)) := by rw [HFW.out]; simpa [Hid] using hO3
      have HG3 : Hid (w.grownBy w1 (some g)) := grown_trans HG1.out hG3
      clear hO3 hG3 HO1 HG1 HO2
      go_wp2
      go_loopw [6] (fun vb wq => ∃ bs : Nat, vb = .int .i64 bs ∧ 20 ≤ bs ∧ bs ≤ 2097152 ∧ OwnE wq base g n c (chS bs L) ∧ w.grownBy wq (some g)) (fun vb _ => 4194304 - (intOf vb).toNat)
      case atStart => exact ⟨20, rfl, Nat.le_refl _, by omega, HO3.out, HG3.out⟩
      case round =>
      rename World => wo
      obtain ⟨bs, rfl, hb20, hbm, hO4, hG4⟩ := hrel
      have HO4 : Hid (OwnE wo base g n c (chS bs L)) := hO4
      have HG4 : Hid (w.grownBy wo (some g)) := hG4
      clear hO4 hG4 HO3 HG3
      by_cases hbs : bs < n
      · have hbsI : (bs : Int) < (n : Int) := by omega
        obtain ⟨d, hd⟩ : ∃ d, d = 2 * bs := ⟨_, rfl⟩
        have r2 : IntKind.i64.wrap (2 * (bs : Int)) = (d : Int) := by rw [IntKind.wrap_i64]; omega
        have r2' : IntKind.i64.wrap ((bs : Int) * 2) = (d : Int) := by rw [IntKind.wrap_i64]; omega
        have HDB : Hid (d = 2 * bs) := hd
        have HB20 : Hid (20 ≤ bs) := hb20
        have HBN : Hid (bs < n) := hbs
        clear hd hb20 hbm hbs
        go_wp2
        go_loopw [7, 8] (fun va vb wr => ∃ (a : Nat) (Zs : List EntD), va = .int .i64 a ∧ vb = .int .i64 ((a + d : Nat) : Int) ∧ a ≤ n ∧ Zs.length = a ∧ chS d L = Zs ++ chS d (L.drop a) ∧ OwnE wr base g n c (Zs ++ chS bs (L.drop a)) ∧ w.grownBy wr (some g)) (fun va _ _ => n - (intOf va).toNat)
        case atStart => exact ⟨0, [], rfl, by rw [Nat.zero_add], Nat.zero_le _, rfl, by simp, by simpa using HO4.out, HG4.out⟩
        case round =>
        obtain ⟨a, Zs, rfl, rfl, han, hz, hch, hO5, hG5⟩ := hrel
        have HZ : Hid (Zs.length = a) := hz
        have HCH : Hid (chS d L = Zs ++ chS d (L.drop a)) := hch
        have HO5 : Hid (OwnE wr base g n c (Zs ++ chS bs (L.drop a))) := hO5
        have HG5 : Hid (w.grownBy wr (some g)) := hG5
        clear hz hch hO5 hG5 HO4
        obtain ⟨b, hb⟩ : ∃ b, b = a + d := ⟨_, rfl⟩
        rw [← hb]
        obtain ⟨m, hm⟩ : ∃ m, m = a + bs := ⟨_, rfl⟩
        have hbm : b = m + bs := by have := HDB.out; omega
        have rm : IntKind.i64.wrap ((a : Int) + (bs : Int)) = (m : Int) := by have := HBN.out; rw [IntKind.wrap_i64]; omega
        by_cases hbn : b ≤ n
        · have hbI : (b : Int) ≤ (n : Int) := by omega
          have rb : IntKind.i64.wrap ((b : Int) + (d : Int)) = ((b + d : Nat) : Int) := by have := HBN.out; have := HDB.out; rw [IntKind.wrap_i64]; omega
          have hxl : ((L.drop a).take bs).length = bs := by have := HLN.out; simp; omega
          have hyl : ((L.drop m).take bs).length = bs := by have := HLN.out; simp; omega
          have hsp : chS bs (L.drop a) = cutC ((L.drop a).take bs) ++ (cutC ((L.drop m).take bs) ++ chS bs (L.drop b)) := by
            have h := chS_two (show 1 ≤ bs by have := HB20.out; omega) (L.drop a)
            rw [List.drop_drop, List.drop_drop, ← hm, ← HDB.out, ← hb] at h
            exact h
          have HO6 : Hid (OwnE wr base g n c (Zs ++ (cutC ((L.drop a).take bs) ++ (cutC ((L.drop m).take bs) ++ chS bs (L.drop b))))) := by have := HO5.out; rw [hsp] at this; exact this
          have HMG : Hid (mrg (cutC ((L.drop a).take bs)) (cutC ((L.drop m).take bs)) = cutC ((L.drop a).take d)) := by
            show _ = _
            have h := mrg_two bs (L.drop a)
            rw [List.drop_drop, ← hm, ← HDB.out] at h
            exact h
          have HCH2 : Hid (chS d L = (Zs ++ cutC ((L.drop a).take d)) ++ chS d (L.drop b)) := by
            show chS d L = _
            rw [HCH.out, chS_go (by have := HB20.out; have := HDB.out; omega) (L.drop a), List.drop_drop, ← hb, List.append_assoc]
          have HZ2 : Hid ((Zs ++ cutC ((L.drop a).take d)).length = b) := by
            show _ = b
            have := HLN.out; have := HZ.out
            rw [List.length_append, cutC_len, List.length_take, List.length_drop]; omega
          have HXL : Hid (1 ≤ (cutC ((L.drop a).take bs)).length) := by show _ ≤ _; rw [cutC_len, hxl]; have := HB20.out; omega
          have HYL : Hid (1 ≤ (cutC ((L.drop m).take bs)).length) := by show _ ≤ _; rw [cutC_len, hyl]; have := HB20.out; omega
          have HME : Hid (m = a + (cutC ((L.drop a).take bs)).length) := by show m = _; rw [cutC_len, hxl]; exact hm
          have HBE : Hid (b = m + (cutC ((L.drop m).take bs)).length) := by show b = _; rw [cutC_len, hyl]; exact hbm
          have HAB : Hid (a < b) := by show a < b; have := HB20.out; omega
          have HBL : Hid (b ≤ n) := hbn
          clear hsp hxl hyl hb hm hbm hbn
          go_wp2_with fail
          refine (symMerge base g n c hn _ Zs (cutC ((L.drop a).take bs)) (cutC ((L.drop m).take bs)) (chS bs (L.drop b)) a m b _ (Nat.le_refl _) HO6.out (cutC_sorted _) (cutC_sorted _) HXL.out HYL.out HZ.out.symm HME.out HBE.out).mono ?_
          rintro e w1 ⟨rfl, hO7, hG7⟩
          have HO7 : Hid (OwnE w1 base g n c ((Zs ++ cutC ((L.drop a).take d)) ++ chS bs (L.drop b))) := by show OwnE _ _ _ _ _ _; rw [← HMG.out, List.append_assoc]; exact hO7
          have HG7 : Hid (w.grownBy w1 (some g)) := grown_trans HG5.out hG7
          clear hO7 hG7
          go_wp2
          go_roundw
          case rel => exact ⟨b, _, rfl, rfl, HBL.out, HZ2.out, HCH2.out, HO7.out, HG7.out⟩
          case measure => have := HAB.out; have := HBL.out; simp [intOf]; omega
        · have hbI : ¬ (b : Int) ≤ (n : Int) := by omega
          have HFD : Hid (chS d L = Zs ++ cutC (L.drop a)) := by show chS d L = _; rw [HCH.out, chS_few (by have := HLN.out; rw [List.length_drop]; omega)]
          by_cases hmn : m < n
          · have hmI : (m : Int) < (n : Int) := by omega
            have hxl : ((L.drop a).take bs).length = bs := by have := HLN.out; simp; omega
            have hyl : (L.drop m).length = n - m := by have := HLN.out; rw [List.length_drop]; omega
            have hsp : chS bs (L.drop a) = cutC ((L.drop a).take bs) ++ (cutC (L.drop m) ++ []) := by
              rw [chS_go (show 1 ≤ bs by have := HB20.out; omega) (L.drop a), List.drop_drop, ← hm, chS_few (by rw [hyl]; omega), List.append_nil]
            have HO6 : Hid (OwnE wr base g n c (Zs ++ (cutC ((L.drop a).take bs) ++ (cutC (L.drop m) ++ [])))) := by have := HO5.out; rw [hsp] at this; exact this
            have HMG : Hid (mrg (cutC ((L.drop a).take bs)) (cutC (L.drop m)) = cutC (L.drop a)) := by
              show _ = _
              have h := cut_two bs (L.drop a)
              rw [List.drop_drop, ← hm] at h
              exact h
            have HXL : Hid (1 ≤ (cutC ((L.drop a).take bs)).length) := by show _ ≤ _; rw [cutC_len, hxl]; have := HB20.out; omega
            have HYL : Hid (1 ≤ (cutC (L.drop m)).length) := by show _ ≤ _; rw [cutC_len, hyl]; omega
            have HME : Hid (m = a + (cutC ((L.drop a).take bs)).length) := by show m = _; rw [cutC_len, hxl]; exact hm
            have HBE : Hid (n = m + (cutC (L.drop m)).length) := by show n = _; rw [cutC_len, hyl]; omega
            clear hsp hxl hyl hb hm hbm hbn hmn
            go_wp2_with fail
            refine (symMerge base g n c hn _ Zs (cutC ((L.drop a).take bs)) (cutC (L.drop m)) [] a m n _ (Nat.le_refl _) HO6.out (cutC_sorted _) (cutC_sorted _) HXL.out HYL.out HZ.out.symm HME.out HBE.out).mono ?_
            rintro e w1 ⟨rfl, hO7, hG7⟩
            have HO7 : Hid (OwnE w1 base g n c (chS d L)) := by show OwnE _ _ _ _ _ _; rw [HFD.out, ← HMG.out]; rw [List.append_nil] at hO7; exact hO7
            have HG7 : Hid (w.grownBy w1 (some g)) := grown_trans HG5.out hG7
            clear hO7 hG7
            go_wp2
            go_roundw
            case rel => exact ⟨d, rfl, by have := HDB.out; have := HB20.out; omega, by have := HDB.out; have := HBN.out; omega, HO7.out, HG7.out⟩
            case measure => have := HDB.out; have := HB20.out; have := HBN.out; simp [intOf]; omega
          · have hmI : ¬ (m : Int) < (n : Int) := by omega
            have HO7 : Hid (OwnE wr base g n c (chS d L)) := by
              show OwnE _ _ _ _ _ _
              have h := HO5.out
              rw [chS_few (by have := HLN.out; rw [List.length_drop]; omega), ← HFD.out] at h
              exact h
            clear hb hm hbm hbn hmn HO5
            go_wp2
            go_roundw
            case rel => exact ⟨d, rfl, by have := HDB.out; have := HB20.out; omega, by have := HDB.out; have := HBN.out; omega, HO7.out, HG5.out⟩
            case measure => have := HDB.out; have := HB20.out; have := HBN.out; simp [intOf]; omega
      · have hbsI : ¬ (bs : Int) < (n : Int) := by omega
        have HD : Hid (OwnE wo base g n c (cutC L)) := by have := HO4.out; rw [chS_few (by rw [HLN.out]; omega)] at this; exact this
        clear HO4
        go_wp2
        go_end0
        exact ⟨rfl, HD.out, HG4.out⟩
end Go.Proofs.YthhiahjafhkbbaaGreat

namespace Go.Proofs.YthhiahjafhkbbaaGreat
open Go.RowKit

attribute [local go_sem] Oper.semAt_some

set_option maxRecDepth 100000 in
set_option maxHeartbeats 1000000 in
theorem cloneCell_any (c : CellD) (w : World) (h : c.2.1.size ≤ 281474976710656) :
    Calls Tryz.prog 48 #[cellV c] w fun e w' => e = .returned (cellV c) ∧ Below w.heap.size w w' := by
  obtain ⟨b, t, n⟩ := c
  simp only at h
  unfold cellV
  simp only
  have kB : Below w.heap.size w ((w.alloc (.cells #[.bool b, .string t, .int .i64 n] 34)).alloc (.cells #[.bool false, .string ⟨#[]⟩, .int .i64 0] 34)) := ((Below.refl _ _).alloc (Nat.le_refl _) _).alloc (by simp) _
  go_enter Tryz.func48, Tryz.ntmps48
  go_wp2_with fail
  refine (strClone _ _ h).mono ?_
  rintro e w1 ⟨rfl, hb1⟩
  obtain ⟨hc1, hf1⟩ := bcell hb1
  have k1 : Below w.heap.size w w1 := kB.trans (hb1.mono (by simp; omega))
  have hz1 : w.heap.size + 1 < w1.heap.size := by have := hb1.size; simp at this; omega
  have x0 : w1.cell? ⟨w.heap.size, 0, none⟩ = some (.bool b) := (hc1 _ _ (by simp only [World.size_alloc]; omega)).trans (by simp)
  have x1 : w1.cell? ⟨w.heap.size, 1, none⟩ = some (.string t) := (hc1 _ _ (by simp only [World.size_alloc]; omega)).trans (by simp)
  have x2 : w1.cell? ⟨w.heap.size, 2, none⟩ = some (.int .i64 n) := (hc1 _ _ (by simp only [World.size_alloc]; omega)).trans (by simp)
  have f1 : w1.frozen? ⟨w.heap.size, 1, none⟩ = false := (hf1 _ _ (by simp only [World.size_alloc]; omega)).trans (by simp)
  have y0 : w1.cell? ⟨w.heap.size + 1, 0, none⟩ = some (.bool false) := (hc1 _ _ (by simp only [World.size_alloc]; omega)).trans (by simp)
  have y1 : w1.cell? ⟨w.heap.size + 1, 1, none⟩ = some (.string ⟨#[]⟩) := (hc1 _ _ (by simp only [World.size_alloc]; omega)).trans (by simp)
  have y2 : w1.cell? ⟨w.heap.size + 1, 2, none⟩ = some (.int .i64 0) := (hc1 _ _ (by simp only [World.size_alloc]; omega)).trans (by simp)
  have g0 : w1.frozen? ⟨w.heap.size + 1, 0, none⟩ = false := (hf1 _ _ (by simp only [World.size_alloc]; omega)).trans (by simp)
  have g1 : w1.frozen? ⟨w.heap.size + 1, 1, none⟩ = false := (hf1 _ _ (by simp only [World.size_alloc]; omega)).trans (by simp)
  have g2 : w1.frozen? ⟨w.heap.size + 1, 2, none⟩ = false := (hf1 _ _ (by simp only [World.size_alloc]; omega)).trans (by simp)
  clear hc1 hf1 hb1 kB
  go_wp2
  refine bodyPost_ret (v := .agg #[.bool b, .string t, .int .i64 n]) (by simp [results, Tryz.results48, go_sem, y0, y1, y2]) rfl ⟨rfl, ?_⟩
  exact (((k1.setCell (p := ⟨w.heap.size, 1, none⟩) (Nat.le_refl _) _).setCell (p := ⟨w.heap.size + 1, 0, none⟩) (Nat.le_succ _) _).setCell (p := ⟨w.heap.size + 1, 1, none⟩) (Nat.le_succ _) _).setCell (p := ⟨w.heap.size + 1, 2, none⟩) (Nat.le_succ _) _

theorem alloc3_a (w : World) (o1 o2 o3 : Obj) (o : Nat) : (((w.alloc o1).alloc o2).alloc o3).cell? ⟨w.heap.size, o, none⟩ = (w.alloc o1).cell? ⟨w.heap.size, o, none⟩ :=
  (((Below.refl (w.heap.size + 1) (w.alloc o1)).alloc (by simp) o2).alloc (by simp) o3).cell (p := ⟨w.heap.size, o, none⟩) (Nat.lt_succ_self _)
theorem alloc3_b (w : World) (o1 o2 o3 : Obj) (o : Nat) : (((w.alloc o1).alloc o2).alloc o3).cell? ⟨w.heap.size + 1, o, none⟩ = ((w.alloc o1).alloc o2).cell? ⟨w.heap.size + 1, o, none⟩ :=
  ((Below.refl (w.heap.size + 1 + 1) ((w.alloc o1).alloc o2)).alloc (by simp) o3).cell (p := ⟨w.heap.size + 1, o, none⟩) (Nat.lt_succ_self _)

theorem alloc3_c (w : World) (o1 o2 : Obj) (cs : Array Value) (t : TypeId) (o : Nat) : (((w.alloc o1).alloc o2).alloc (.cells cs t)).cell? ⟨w.heap.size + 1 + 1, o, none⟩ = cs[o]? := by
  have h := World.cell?_alloc_new ((w.alloc o1).alloc o2) cs t o
  simp only [World.size_alloc] at h
  exact h

theorem alloc3_f (w : World) (o1 o2 : Obj) (cs : Array Value) (t : TypeId) (o : Nat) : (((w.alloc o1).alloc o2).alloc (.cells cs t)).frozen? ⟨w.heap.size + 1 + 1, o, none⟩ = false := by
  have h : (((w.alloc o1).alloc o2).alloc (.cells cs t)).frozen? ⟨((w.alloc o1).alloc o2).heap.size, o, none⟩ = false := World.frozen?_alloc_new _ cs t o
  simp only [World.size_alloc] at h
  exact h

theorem cellN_size {b : Bool} {t t' : ByteArray} {n d n' : Int} {L : Nat} (ht : t.size ≤ L) (ht' : t'.size ≤ L) : (cellN b t n d t' n').2.1.size ≤ L := by
  unfold cellN
  split
  · exact ht'
  · split
    · exact Nat.zero_le _
    · split
      · exact ht
      · exact ht
end Go.Proofs.YthhiahjafhkbbaaGreat

namespace Go.Proofs.YthhiahjafhkbbaaGreat
open Go.RowKit

set_option maxRecDepth 100000 in
theorem kind_any (b : Bool) (t k t' : ByteArray) (n q d n' : Int) : ∃ T F : Nat,
    (∀ w, Calls Tryz.prog 47 #[.agg #[.string k, .int .i64 q, .int .i64 d, .string t', .int .i64 n']] w fun e w' => e = .returned (.iface T (.agg #[])) ∧ Below w.heap.size w w') ∧
    (∀ w : World, (method 343 T (.agg #[]) "loop.example/comptoir/impl.do").run Tryz.prog w = .ok (F, .agg #[]) w) ∧
    (∀ (args : Array Value) (w : World), (callFunc F args).run Tryz.prog w = .ok (.enter F args) w) ∧
    (∀ w, Calls Tryz.prog F #[.agg #[], .agg #[.bool b, .string t, .int .i64 n], .agg #[.string k, .int .i64 q, .int .i64 d, .string t', .int .i64 n']] w fun e w' => e = .returned (cellV (cellN b t n d t' n')) ∧ Below w.heap.size w w') := by
  by_cases d1 : d = 1
  · subst d1
    exact ⟨137, 208, fun w => kindOf_putKind k t' q n' w, fun _ => by kernel_rfl, enters_of Tryz.func208 (by kernel_rfl) rfl, fun w => by rw [cellN_1]; exact do_putKind b t k t' n q 1 n' w⟩
  by_cases d2 : d = 2
  · subst d2
    exact ⟨138, 210, fun w => kindOf_delKind k t' q n' w, fun _ => by kernel_rfl, enters_of Tryz.func210 (by kernel_rfl) rfl, fun w => by rw [cellN_2]; exact do_delKind b t k t' n q 2 n' w⟩
  by_cases d3 : d = 3
  · subst d3
    exact ⟨139, 212, fun w => kindOf_addKind k t' q n' w, fun _ => by kernel_rfl, enters_of Tryz.func212 (by kernel_rfl) rfl, fun w => by rw [cellN_3]; exact do_addKind b t k t' n q 3 n' w⟩
  exact ⟨140, 214, fun w => kindOf_noKind k t' q d n' w d1 d2 d3, fun _ => by kernel_rfl, enters_of Tryz.func214 (by kernel_rfl) rfl, fun w => by rw [cellN_0 d1 d2 d3]; exact do_noKind b t k t' n q d n' w⟩
end Go.Proofs.YthhiahjafhkbbaaGreat
