/-
  The library's stable sort of entries by their times, at any number of them: it leaves them in the order of their times, those of one time as they stood; by a walk of its Go text.
  Contracts of the library's strings package at this program, laid by the kit's own command.
  A box of five cells, and what it keeps; no statement of the program stands here.
  A box of three cells, and what it keeps; no statement of the program stands here.
-/
import Derived.Test.YtlmgojlffgkciaaGreatCe33
import Derived.Shelf.LaysM
import Derived.Shelf.Strconv.Clone
import Derived.Test.YtlmgojlffgkciaaGreatProg
import Derived.Test.YtlmgojlffgkciaaGreatCe25
namespace Go.Proofs.YtlmgojlffgkciaaGreat
open Go.RowKit
set_option maxRecDepth 100000
set_option maxHeartbeats 16000000
attribute [local go_sem] Oper.semAt_some
theorem chS_two {bs : Nat} (hb : 1 ≤ bs) (R : List EntD) : chS bs R = cutC (R.take bs) ++ (cutC ((R.drop bs).take bs) ++ chS bs (R.drop (2 * bs))) := by
  rw [chS_go hb R, chS_go hb (R.drop bs), List.drop_drop, show bs + bs = 2 * bs by omega]
theorem mrg_two (bs : Nat) (R : List EntD) : mrg (cutC (R.take bs)) (cutC ((R.drop bs).take bs)) = cutC (R.take (2 * bs)) := by
  have h := cut_two bs (R.take (2 * bs))
  rw [List.take_take, List.drop_take, Nat.min_eq_left (by omega), show 2 * bs - bs = bs by omega] at h
  exact h
theorem stableAll (base g n c : Nat) (L : List EntD) (w : World) (hO : OwnE w base g n c L) (hn : n ≤ 1048576) :
    Calls Tryz.prog 173 #[.slice (some ⟨g, 0, none⟩) n c, .int .i64 n, .func (.func 137) #[] #[]] w fun e w' => e = .returned (.tuple #[]) ∧ OwnE w' base g n c (cutC L) ∧ w.grownBy w' (some g) := by
  have HLN : Hid (L.length = n) := hO.len
  have HO : Hid (OwnE w base g n c L) := hO
  clear hO
  go_enter Tryz.func173, Tryz.ntmps173
  go_wp2
  go_loopw [7, 8] (fun va vb wr => ∃ (a : Nat) (Zs : List EntD), va = .int .i64 a ∧ vb = .int .i64 ((a + 20 : Nat) : Int) ∧ a ≤ n ∧ Zs.length = a ∧ chS 20 L = Zs ++ chS 20 (L.drop a) ∧ OwnE wr base g n c (Zs ++ L.drop a) ∧ w.grownBy wr (some g)) (fun va _ _ => n - (intOf va).toNat)
  case atStart => exact ⟨0, [], rfl, rfl, Nat.zero_le _, rfl, by simp, by simpa using HO.out, ⟨rfl, rfl, rfl, Nat.le_refl _, fun _ _ _ => rfl⟩⟩
  case round =>
    obtain ⟨a, Zs, rfl, rfl, han, hz, hch, hO1, hG1⟩ := hrel
    have HZ : Hid (Zs.length = a) := hz
    have HCH : Hid (chS 20 L = Zs ++ chS 20 (L.drop a)) := hch
    have HO1 : Hid (OwnE wr base g n c (Zs ++ L.drop a)) := hO1
    have HG1 : Hid (w.grownBy wr (some g)) := hG1
    clear hz hch hO1 hG1 HO
    obtain ⟨b, hb⟩ : ∃ b, b = a + 20 := ⟨_, rfl⟩
    rw [← hb]
    by_cases hbn : b ≤ n
    · have hbI : (b : Int) ≤ (n : Int) := by omega
      have rb : IntKind.i64.wrap ((b : Int) + 20) = ((b + 20 : Nat) : Int) := by rw [IntKind.wrap_i64]; omega
      have hsp : L.drop a = (L.drop a).take 20 ++ L.drop b := by rw [hb, ← List.drop_drop, List.take_append_drop]
      have hxl : ((L.drop a).take 20).length = 20 := by have := HLN.out; simp; omega
      have HO2 : Hid (OwnE wr base g n c (Zs ++ ((L.drop a).take 20 ++ L.drop b))) := by have := HO1.out; rw [hsp] at this; exact this
      have HCH2 : Hid (chS 20 L = (Zs ++ cutC ((L.drop a).take 20)) ++ chS 20 (L.drop b)) := by
        show chS 20 L = _
        rw [HCH.out, chS_go (by omega) (L.drop a), List.drop_drop, ← hb, List.append_assoc]
      have HZ2 : Hid ((Zs ++ cutC ((L.drop a).take 20)).length = b) := by show _ = b; rw [List.length_append, cutC_len, hxl, HZ.out, hb]
      have HBE : Hid (b = Zs.length + ((L.drop a).take 20).length) := by show b = _; rw [hxl, HZ.out]; exact hb
      have HAB : Hid (a < b) := by show a < b; omega
      clear hsp hxl hb
      go_wp2_with fail
      refine (insPart base g n c Zs ((L.drop a).take 20) (L.drop b) a b _ HO2.out HZ.out.symm HBE.out hn).mono ?_
      rintro e w1 ⟨rfl, hO3, hG3⟩
      have HO3 : Hid (OwnE w1 base g n c ((Zs ++ cutC ((L.drop a).take 20)) ++ L.drop b)) := by simpa [Hid] using hO3
      have HG3 : Hid (w.grownBy w1 (some g)) := grown_trans HG1.out hG3
      clear hO3 hG3
      go_wp2
      go_roundw
      case rel => exact ⟨b, _, rfl, rfl, hbn, HZ2.out, HCH2.out, HO3.out, HG3.out⟩
      case measure => have := HAB.out; simp [intOf]; omega
    · have hbI : ¬ (b : Int) ≤ (n : Int) := by omega
      have HO2 : Hid (OwnE wr base g n c (Zs ++ (L.drop a ++ []))) := by simpa [Hid] using HO1.out
      have HNE : Hid (n = Zs.length + (L.drop a).length) := by show n = _; have := HLN.out; have := HZ.out; rw [List.length_drop]; omega
      have HFW : Hid (chS 20 L = Zs ++ cutC (L.drop a)) := by show chS 20 L = _; rw [HCH.out, chS_few (by have := HLN.out; rw [List.length_drop]; omega)]
      clear hb
      go_wp2_with fail
      refine (insPart base g n c Zs (L.drop a) [] a n _ HO2.out HZ.out.symm HNE.out hn).mono ?_
      rintro e w1 ⟨rfl, hO3, hG3⟩
      have HO3 : Hid (OwnE w1 base g n c (chS 20 L)) := by rw [HFW.out]; simpa [Hid] using hO3
      have HG3 : Hid (w.grownBy w1 (some g)) := grown_trans HG1.out hG3
      clear hO3 hG3 HO1 HG1 HO2
      go_wp2
      go_loopw [6] (fun vb wq => ∃ bs : Nat, vb = .int .i64 bs ∧ 20 ≤ bs ∧ bs ≤ 2097152 ∧ OwnE wq base g n c (chS bs L) ∧ w.grownBy wq (some g)) (fun vb _ => 4194304 - (intOf vb).toNat)
      case atStart => exact ⟨20, rfl, Nat.le_refl _, by omega, HO3.out, HG3.out⟩
      case round =>
      rename World => wo
      obtain ⟨bs, rfl, hb20, hbm, hO4, hG4⟩ := hrel
      have HO4 : Hid (OwnE wo base g n c (chS bs L)) := hO4
      have HG4 : Hid (w.grownBy wo (some g)) := hG4
      clear hO4 hG4 HO3 HG3
      by_cases hbs : bs < n
      · have hbsI : (bs : Int) < (n : Int) := by omega
        obtain ⟨d, hd⟩ : ∃ d, d = 2 * bs := ⟨_, rfl⟩
        have r2 : IntKind.i64.wrap (2 * (bs : Int)) = (d : Int) := by rw [IntKind.wrap_i64]; omega
        have r2' : IntKind.i64.wrap ((bs : Int) * 2) = (d : Int) := by rw [IntKind.wrap_i64]; omega
        have HDB : Hid (d = 2 * bs) := hd
        have HB20 : Hid (20 ≤ bs) := hb20
        have HBN : Hid (bs < n) := hbs
        clear hd hb20 hbm hbs
        go_wp2
        go_loopw [7, 8] (fun va vb wr => ∃ (a : Nat) (Zs : List EntD), va = .int .i64 a ∧ vb = .int .i64 ((a + d : Nat) : Int) ∧ a ≤ n ∧ Zs.length = a ∧ chS d L = Zs ++ chS d (L.drop a) ∧ OwnE wr base g n c (Zs ++ chS bs (L.drop a)) ∧ w.grownBy wr (some g)) (fun va _ _ => n - (intOf va).toNat)
        case atStart => exact ⟨0, [], rfl, by rw [Nat.zero_add], Nat.zero_le _, rfl, by simp, by simpa using HO4.out, HG4.out⟩
        case round =>
        obtain ⟨a, Zs, rfl, rfl, han, hz, hch, hO5, hG5⟩ := hrel
        have HZ : Hid (Zs.length = a) := hz
        have HCH : Hid (chS d L = Zs ++ chS d (L.drop a)) := hch
        have HO5 : Hid (OwnE wr base g n c (Zs ++ chS bs (L.drop a))) := hO5
        have HG5 : Hid (w.grownBy wr (some g)) := hG5
        clear hz hch hO5 hG5 HO4
        obtain ⟨b, hb⟩ : ∃ b, b = a + d := ⟨_, rfl⟩
        rw [← hb]
        obtain ⟨m, hm⟩ : ∃ m, m = a + bs := ⟨_, rfl⟩
        have hbm : b = m + bs := by have := HDB.out; omega
        have rm : IntKind.i64.wrap ((a : Int) + (bs : Int)) = (m : Int) := by have := HBN.out; rw [IntKind.wrap_i64]; omega
        by_cases hbn : b ≤ n
        · have hbI : (b : Int) ≤ (n : Int) := by omega
          have rb : IntKind.i64.wrap ((b : Int) + (d : Int)) = ((b + d : Nat) : Int) := by have := HBN.out; have := HDB.out; rw [IntKind.wrap_i64]; omega
          have hxl : ((L.drop a).take bs).length = bs := by have := HLN.out; simp; omega
          have hyl : ((L.drop m).take bs).length = bs := by have := HLN.out; simp; omega
          have hsp : chS bs (L.drop a) = cutC ((L.drop a).take bs) ++ (cutC ((L.drop m).take bs) ++ chS bs (L.drop b)) := by
            have h := chS_two (show 1 ≤ bs by have := HB20.out; omega) (L.drop a)
            rw [List.drop_drop, List.drop_drop, ← hm, ← HDB.out, ← hb] at h
            exact h
          have HO6 : Hid (OwnE wr base g n c (Zs ++ (cutC ((L.drop a).take bs) ++ (cutC ((L.drop m).take bs) ++ chS bs (L.drop b))))) := by have := HO5.out; rw [hsp] at this; exact this
          have HMG : Hid (mrg (cutC ((L.drop a).take bs)) (cutC ((L.drop m).take bs)) = cutC ((L.drop a).take d)) := by
            show _ = _
            have h := mrg_two bs (L.drop a)
            rw [List.drop_drop, ← hm, ← HDB.out] at h
            exact h
          have HCH2 : Hid (chS d L = (Zs ++ cutC ((L.drop a).take d)) ++ chS d (L.drop b)) := by
            show chS d L = _
            rw [HCH.out, chS_go (by have := HB20.out; have := HDB.out; omega) (L.drop a), List.drop_drop, ← hb, List.append_assoc]
          have HZ2 : Hid ((Zs ++ cutC ((L.drop a).take d)).length = b) := by
            show _ = b
            have := HLN.out; have := HZ.out
            rw [List.length_append, cutC_len, List.length_take, List.length_drop]; omega
          have HXL : Hid (1 ≤ (cutC ((L.drop a).take bs)).length) := by show _ ≤ _; rw [cutC_len, hxl]; have := HB20.out; omega
          have HYL : Hid (1 ≤ (cutC ((L.drop m).take bs)).length) := by show _ ≤ _; rw [cutC_len, hyl]; have := HB20.out; omega
          have HME : Hid (m = a + (cutC ((L.drop a).take bs)).length) := by show m = _; rw [cutC_len, hxl]; exact hm
          have HBE : Hid (b = m + (cutC ((L.drop m).take bs)).length) := by show b = _; rw [cutC_len, hyl]; exact hbm
          have HAB : Hid (a < b) := by show a < b; have := HB20.out; omega
          have HBL : Hid (b ≤ n) := hbn
          clear hsp hxl hyl hb hm hbm hbn
          go_wp2_with fail
          refine (symMerge base g n c hn _ Zs (cutC ((L.drop a).take bs)) (cutC ((L.drop m).take bs)) (chS bs (L.drop b)) a m b _ (Nat.le_refl _) HO6.out (cutC_sorted _) (cutC_sorted _) HXL.out HYL.out HZ.out.symm HME.out HBE.out).mono ?_
          rintro e w1 ⟨rfl, hO7, hG7⟩
          have HO7 : Hid (OwnE w1 base g n c ((Zs ++ cutC ((L.drop a).take d)) ++ chS bs (L.drop b))) := by show OwnE _ _ _ _ _ _; rw [← HMG.out, List.append_assoc]; exact hO7
          have HG7 : Hid (w.grownBy w1 (some g)) := grown_trans HG5.out hG7
          clear hO7 hG7
          go_wp2
          go_roundw
          case rel => exact ⟨b, _, rfl, rfl, HBL.out, HZ2.out, HCH2.out, HO7.out, HG7.out⟩
          case measure => have := HAB.out; have := HBL.out; simp [intOf]; omega
        · have hbI : ¬ (b : Int) ≤ (n : Int) := by omega
          have HFD : Hid (chS d L = Zs ++ cutC (L.drop a)) := by show chS d L = _; rw [HCH.out, chS_few (by have := HLN.out; rw [List.length_drop]; omega)]
          by_cases hmn : m < n
          · have hmI : (m : Int) < (n : Int) := by omega
            have hxl : ((L.drop a).take bs).length = bs := by have := HLN.out; simp; omega
            have hyl : (L.drop m).length = n - m := by have := HLN.out; rw [List.length_drop]; omega
            have hsp : chS bs (L.drop a) = cutC ((L.drop a).take bs) ++ (cutC (L.drop m) ++ []) := by
              rw [chS_go (show 1 ≤ bs by have := HB20.out; omega) (L.drop a), List.drop_drop, ← hm, chS_few (by rw [hyl]; omega), List.append_nil]
            have HO6 : Hid (OwnE wr base g n c (Zs ++ (cutC ((L.drop a).take bs) ++ (cutC (L.drop m) ++ [])))) := by have := HO5.out; rw [hsp] at this; exact this
            have HMG : Hid (mrg (cutC ((L.drop a).take bs)) (cutC (L.drop m)) = cutC (L.drop a)) := by
              show _ = _
              have h := cut_two bs (L.drop a)
              rw [List.drop_drop, ← hm] at h
              exact h
            have HXL : Hid (1 ≤ (cutC ((L.drop a).take bs)).length) := by show _ ≤ _; rw [cutC_len, hxl]; have := HB20.out; omega
            have HYL : Hid (1 ≤ (cutC (L.drop m)).length) := by show _ ≤ _; rw [cutC_len, hyl]; omega
            have HME : Hid (m = a + (cutC ((L.drop a).take bs)).length) := by show m = _; rw [cutC_len, hxl]; exact hm
            have HBE : Hid (n = m + (cutC (L.drop m)).length) := by show n = _; rw [cutC_len, hyl]; omega
            clear hsp hxl hyl hb hm hbm hbn hmn
            go_wp2_with fail
            refine (symMerge base g n c hn _ Zs (cutC ((L.drop a).take bs)) (cutC (L.drop m)) [] a m n _ (Nat.le_refl _) HO6.out (cutC_sorted _) (cutC_sorted _) HXL.out HYL.out HZ.out.symm HME.out HBE.out).mono ?_
            rintro e w1 ⟨rfl, hO7, hG7⟩
            have HO7 : Hid (OwnE w1 base g n c (chS d L)) := by show OwnE _ _ _ _ _ _; rw [HFD.out, ← HMG.out]; rw [List.append_nil] at hO7; exact hO7
            have HG7 : Hid (w.grownBy w1 (some g)) := grown_trans HG5.out hG7
            clear hO7 hG7
            go_wp2
            go_roundw
            case rel => exact ⟨d, rfl, by have := HDB.out; have := HB20.out; omega, by have := HDB.out; have := HBN.out; omega, HO7.out, HG7.out⟩
            case measure => have := HDB.out; have := HB20.out; have := HBN.out; simp [intOf]; omega
          · have hmI : ¬ (m : Int) < (n : Int) := by omega
            have HO7 : Hid (OwnE wr base g n c (chS d L)) := by
              show OwnE _ _ _ _ _ _
              have h := HO5.out
              rw [chS_few (by have := HLN.out; rw [List.length_drop]; omega), ← HFD.out] at h
              exact h
            clear hb hm hbm hbn hmn HO5
            go_wp2
            go_roundw
            case rel => exact ⟨d, rfl, by have := HDB.out; have := HB20.out; omega, by have := HDB.out; have := HBN.out; omega, HO7.out, HG5.out⟩
            case measure => have := HDB.out; have := HB20.out; have := HBN.out; simp [intOf]; omega
      · have hbsI : ¬ (bs : Int) < (n : Int) := by omega
        have HD : Hid (OwnE wo base g n c (cutC L)) := by have := HO4.out; rw [chS_few (by rw [HLN.out]; omega)] at this; exact this
        clear HO4
        go_wp2
        go_end0
        exact ⟨rfl, HD.out, HG4.out⟩
end Go.Proofs.YtlmgojlffgkciaaGreat

namespace Go.Proofs.YtlmgojlffgkciaaGreat
open Go.Shelf
def Tryz.laysM316_ren : Go.Shelf.Ren := ⟨fun | 316 => 192 | n => n, fun | 9 => 9 | 3 => 3 | 4 => 4 | 37 => 114 | 0 => 0 | 127 => 240 | 5 => 5 | n => n, fun | n => n⟩
theorem Tryz.laysM316 : Go.Proofs.LaysM.n316 Tryz.prog Tryz.laysM316_ren := {
  mixed := by kernel_rfl
  f316 := Tryz.func192.trans (congrArg some (by kernel_rfl))
  t0 := Tryz.underlying0
  a0 := Tryz.isAgg0
  z0 := Tryz.sizeOf0
  v0 := Tryz.zeroValue0
  t3 := Tryz.underlying3
  a3 := Tryz.isAgg3
  z3 := Tryz.sizeOf3
  v3 := Tryz.zeroValue3
  t4 := Tryz.underlying4
  a4 := Tryz.isAgg4
  z4 := Tryz.sizeOf4
  v4 := Tryz.zeroValue4
  t9 := Tryz.underlying9
  a9 := Tryz.isAgg9
  z9 := Tryz.sizeOf9
  v9 := Tryz.zeroValue9
  t37 := Tryz.underlying114
  a37 := Tryz.isAgg114
  z37 := Tryz.sizeOf114
  v37 := Tryz.zeroValue114
  t127 := Tryz.underlying240
  a127 := Tryz.isAgg240
  z127 := Tryz.sizeOf240
  v127 := Tryz.zeroValue240
  t5 := Tryz.underlying5
  a5 := Tryz.isAgg5
  z5 := Tryz.sizeOf5
  v5 := Tryz.zeroValue5
  i0 := by kernel_rfl
  i3 := by kernel_rfl
  i4 := by kernel_rfl
  i5 := by kernel_rfl
  i9 := by kernel_rfl
  i37 := by kernel_rfl
  i127 := by kernel_rfl }
open Go.RowKit in
theorem Tryz.stringslite_Clone (s : ByteArray) (w : World) (hlim : s.size ≤ 281474976710656) :
    Calls Tryz.prog 192 #[.string s] w fun e w' => e = .returned (.string s) ∧ Below w.heap.size w w' := Any.stringslite_Clone Tryz.laysM316 s w hlim
end Go.Proofs.YtlmgojlffgkciaaGreat

namespace Go.Proofs.YtlmgojlffgkciaaGreat
open Go.RowKit
structure Box5 (w : World) (X : Nat) (v0 v1 v2 v3 v4 : Value) : Prop where
  c0 : w.cell? ⟨X, 0, none⟩ = some v0
  c1 : w.cell? ⟨X, 1, none⟩ = some v1
  c2 : w.cell? ⟨X, 2, none⟩ = some v2
  c3 : w.cell? ⟨X, 3, none⟩ = some v3
  c4 : w.cell? ⟨X, 4, none⟩ = some v4
  fr : ∀ o, w.frozen? ⟨X, o, none⟩ = false
theorem Box5.lt {w : World} {X : Nat} {v0 v1 v2 v3 v4 : Value} (h : Box5 w X v0 v1 v2 v3 v4) : X < w.heap.size := World.block_lt_of_cell? _ _ h.c0
theorem Box5.new (w : World) (T : TypeId) (v0 v1 v2 v3 v4 : Value) : Box5 (w.alloc (.cells #[v0, v1, v2, v3, v4] T)) w.heap.size v0 v1 v2 v3 v4 :=
  ⟨by simp, by simp, by simp, by simp, by simp, fun o => World.frozen?_alloc_new w _ _ o⟩
theorem Box5.below {w w' : World} {X : Nat} {v0 v1 v2 v3 v4 : Value} (h : Box5 w X v0 v1 v2 v3 v4) (hb : Below w.heap.size w w') : Box5 w' X v0 v1 v2 v3 v4 :=
  ⟨cell_later hb h.c0, cell_later hb h.c1, cell_later hb h.c2, cell_later hb h.c3, cell_later hb h.c4, fun o => (hb.frozen (p := ⟨X, o, none⟩) h.lt).trans (h.fr o)⟩
theorem Box5.alloc {w : World} {X : Nat} {v0 v1 v2 v3 v4 : Value} (h : Box5 w X v0 v1 v2 v3 v4) (o : Obj) : Box5 (w.alloc o) X v0 v1 v2 v3 v4 := h.below ((Below.refl _ _).alloc (Nat.le_refl _) _)
theorem Box5.other {w : World} {X Y : Nat} {v0 v1 v2 v3 v4 : Value} (h : Box5 w X v0 v1 v2 v3 v4) (hn : X ≠ Y) (o : Nat) (v : Value) : Box5 (w.setCell ⟨Y, o, none⟩ v) X v0 v1 v2 v3 v4 := by
  have ne : ∀ i, (⟨Y, o, none⟩ : Addr) ≠ ⟨X, i, none⟩ := fun i e => hn (congrArg Addr.block e).symm
  exact ⟨by rw [World.cell?_setCell_other _ _ _ _ (ne 0)]; exact h.c0, by rw [World.cell?_setCell_other _ _ _ _ (ne 1)]; exact h.c1, by rw [World.cell?_setCell_other _ _ _ _ (ne 2)]; exact h.c2, by rw [World.cell?_setCell_other _ _ _ _ (ne 3)]; exact h.c3, by rw [World.cell?_setCell_other _ _ _ _ (ne 4)]; exact h.c4, fun o' => by rw [World.frozen?_setCell]; exact h.fr o'⟩
theorem Box5.set0 {w : World} {X : Nat} {v0 v1 v2 v3 v4 : Value} (h : Box5 w X v0 v1 v2 v3 v4) (v : Value) : Box5 (w.setCell ⟨X, 0, none⟩ v) X v v1 v2 v3 v4 := by
  refine ⟨World.cell?_setCell_same' _ _ _ (by rw [h.c0]; rfl), ?_, ?_, ?_, ?_, fun o' => by rw [World.frozen?_setCell]; exact h.fr o'⟩
  · rw [World.cell?_setCell_other _ _ _ _ (by simp)]; exact h.c1
  · rw [World.cell?_setCell_other _ _ _ _ (by simp)]; exact h.c2
  · rw [World.cell?_setCell_other _ _ _ _ (by simp)]; exact h.c3
  · rw [World.cell?_setCell_other _ _ _ _ (by simp)]; exact h.c4
theorem Box5.set1 {w : World} {X : Nat} {v0 v1 v2 v3 v4 : Value} (h : Box5 w X v0 v1 v2 v3 v4) (v : Value) : Box5 (w.setCell ⟨X, 1, none⟩ v) X v0 v v2 v3 v4 := by
  refine ⟨?_, World.cell?_setCell_same' _ _ _ (by rw [h.c1]; rfl), ?_, ?_, ?_, fun o' => by rw [World.frozen?_setCell]; exact h.fr o'⟩
  · rw [World.cell?_setCell_other _ _ _ _ (by simp)]; exact h.c0
  · rw [World.cell?_setCell_other _ _ _ _ (by simp)]; exact h.c2
  · rw [World.cell?_setCell_other _ _ _ _ (by simp)]; exact h.c3
  · rw [World.cell?_setCell_other _ _ _ _ (by simp)]; exact h.c4
theorem Box5.set2 {w : World} {X : Nat} {v0 v1 v2 v3 v4 : Value} (h : Box5 w X v0 v1 v2 v3 v4) (v : Value) : Box5 (w.setCell ⟨X, 2, none⟩ v) X v0 v1 v v3 v4 := by
  refine ⟨?_, ?_, World.cell?_setCell_same' _ _ _ (by rw [h.c2]; rfl), ?_, ?_, fun o' => by rw [World.frozen?_setCell]; exact h.fr o'⟩
  · rw [World.cell?_setCell_other _ _ _ _ (by simp)]; exact h.c0
  · rw [World.cell?_setCell_other _ _ _ _ (by simp)]; exact h.c1
  · rw [World.cell?_setCell_other _ _ _ _ (by simp)]; exact h.c3
  · rw [World.cell?_setCell_other _ _ _ _ (by simp)]; exact h.c4
end Go.Proofs.YtlmgojlffgkciaaGreat
namespace Go.Proofs.YtlmgojlffgkciaaGreat
open Go.RowKit
structure Box3 (w : World) (X : Nat) (v0 v1 v2 : Value) : Prop where
  c0 : w.cell? ⟨X, 0, none⟩ = some v0
  c1 : w.cell? ⟨X, 1, none⟩ = some v1
  c2 : w.cell? ⟨X, 2, none⟩ = some v2
  fr : ∀ o, w.frozen? ⟨X, o, none⟩ = false
theorem Box3.lt {w : World} {X : Nat} {v0 v1 v2 : Value} (h : Box3 w X v0 v1 v2) : X < w.heap.size := World.block_lt_of_cell? _ _ h.c0
theorem Box3.new (w : World) (T : TypeId) (v0 v1 v2 : Value) : Box3 (w.alloc (.cells #[v0, v1, v2] T)) w.heap.size v0 v1 v2 :=
  ⟨by simp, by simp, by simp, fun o => World.frozen?_alloc_new w _ _ o⟩
theorem Box3.below {w w' : World} {X : Nat} {v0 v1 v2 : Value} (h : Box3 w X v0 v1 v2) (hb : Below w.heap.size w w') : Box3 w' X v0 v1 v2 :=
  ⟨cell_later hb h.c0, cell_later hb h.c1, cell_later hb h.c2, fun o => (hb.frozen (p := ⟨X, o, none⟩) h.lt).trans (h.fr o)⟩
theorem Box3.alloc {w : World} {X : Nat} {v0 v1 v2 : Value} (h : Box3 w X v0 v1 v2) (o : Obj) : Box3 (w.alloc o) X v0 v1 v2 := h.below ((Below.refl _ _).alloc (Nat.le_refl _) _)
theorem Box3.other {w : World} {X Y : Nat} {v0 v1 v2 : Value} (h : Box3 w X v0 v1 v2) (hn : X ≠ Y) (o : Nat) (v : Value) : Box3 (w.setCell ⟨Y, o, none⟩ v) X v0 v1 v2 := by
  have ne : ∀ i, (⟨Y, o, none⟩ : Addr) ≠ ⟨X, i, none⟩ := fun i e => hn (congrArg Addr.block e).symm
  exact ⟨by rw [World.cell?_setCell_other _ _ _ _ (ne 0)]; exact h.c0, by rw [World.cell?_setCell_other _ _ _ _ (ne 1)]; exact h.c1, by rw [World.cell?_setCell_other _ _ _ _ (ne 2)]; exact h.c2, fun o' => by rw [World.frozen?_setCell]; exact h.fr o'⟩
theorem Box3.setAll {w : World} {X : Nat} {v0 v1 v2 : Value} (h : Box3 w X v0 v1 v2) (u0 u1 u2 : Value) : Box3 (((w.setCell ⟨X, 0, none⟩ u0).setCell ⟨X, 1, none⟩ u1).setCell ⟨X, 2, none⟩ u2) X u0 u1 u2 := by
  refine ⟨?_, ?_, ?_, fun o' => by rw [World.frozen?_setCell, World.frozen?_setCell, World.frozen?_setCell]; exact h.fr o'⟩
  · rw [World.cell?_setCell_other _ _ _ _ (by simp), World.cell?_setCell_other _ _ _ _ (by simp)]
    exact World.cell?_setCell_same' _ _ _ (by rw [h.c0]; rfl)
  · rw [World.cell?_setCell_other _ _ _ _ (by simp)]
    exact World.cell?_setCell_same' _ _ _ (by rw [World.cell?_setCell_other _ _ _ _ (by simp), h.c1]; rfl)
  · exact World.cell?_setCell_same' _ _ _ (by rw [World.cell?_setCell_other _ _ _ _ (by simp), World.cell?_setCell_other _ _ _ _ (by simp), h.c2]; rfl)
end Go.Proofs.YtlmgojlffgkciaaGreat
