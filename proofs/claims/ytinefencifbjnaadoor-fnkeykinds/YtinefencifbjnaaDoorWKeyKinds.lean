/-
  The walk of the law FnKeyKinds: it answers true at all bytes.
-/
import Derived.Test.YtinefencifbjnaaDoorKeyBalW
import Derived.Test.YtinefencifbjnaaDoorKeyOrdP
import Derived.Test.YtinefencifbjnaaDoorKeyNum
import Derived.Test.YtinefencifbjnaaDoorKey
import Derived.Test.YtinefencifbjnaaDoorDrawKey2
import Derived.Test.YtinefencifbjnaaDoorBytes
namespace Go.Proofs.YtinefencifbjnaaDoor
open Go.RowKit Go.Shelf

theorem numKey_list (x : UInt8) (n : Int) : (numKey x n).data.toList = numL x n := rfl
theorem keyN_no {x : UInt8} {n : Int} (h : n < 0 ∨ 99 < n) : keyN x n 99 = ⟨#[]⟩ := by unfold keyN; rw [if_pos h]
theorem keyN_yes {x : UInt8} {n : Int} (h0 : 0 ≤ n) (h1 : n ≤ 99) : keyN x n 99 = numKey x n := by unfold keyN; rw [if_neg (by omega)]
theorem bal_ahead (s : ByteArray) (c n : Int) : Op.bytesLess (keyBalB s c).toList (numKey 105 n).toList = true := by
  rw [ByteArray.toList_eq, ByteArray.toList_eq, numKey_list]
  unfold keyBalB
  split
  · simp [numL, Op.bytesLess]
  · simp [numL, Op.bytesLess]
theorem id_ahead (m n : Int) : Op.bytesLess (numKey 105 m).toList (numKey 106 n).toList = true := by
  rw [ByteArray.toList_eq, ByteArray.toList_eq, numKey_list, numKey_list]
  simp [numL, Op.bytesLess]
theorem num_size (x : UInt8) (n : Int) : (numKey x n).size ≤ maxLen := by
  have : (numKey x n).size = 4 := rfl
  unfold maxLen
  omega

set_option maxRecDepth 100000 in
set_option maxHeartbeats 8000000 in
theorem walkFnKeyKinds (a : Option Addr) (len cap : Nat) (a' : Option Addr) (len' cap' : Nat) (w : World) (hb : BytesAt w a len cap) (hb' : BytesAt w a' len' cap') :
    Calls Tryd.prog 4 #[.slice a len cap, .slice a' len' cap'] w fun e w' => e = .returned (.bool true) ∧ Below w.heap.size w w' := by
  have HB : Hid (BytesAt w a len cap) := hb
  have HB' : Hid (BytesAt w a' len' cap') := hb'
  have hc1 := hb.1
  have hc2 := hb.2.1
  have hc3 := hb'.1
  have hc4 := hb'.2.1
  unfold maxLen at hc2 hc4
  clear hb hb'
  by_cases hbig : 1048576 < len
  · go_enter Tryd.func4, Tryd.ntmps4
    go_wp2
    go_ret
    exact ⟨rfl, Below.refl _ _⟩
  by_cases hbig2 : 1048576 < len'
  · go_enter Tryd.func4, Tryd.ntmps4
    go_wp2
    go_ret
    exact ⟨rfl, Below.refl _ _⟩
  go_enter Tryd.func4, Tryd.ntmps4
  go_wp2_with fail
  refine (drawKeyId_any a len cap _ HB.out).mono ?_
  rintro e w1 ⟨m, rfl, hsm, hb1⟩
  have HG1 : Hid (Below w.heap.size w w1) := hb1
  clear hb1
  go_wp2_with fail
  refine (drawKeyLog_any a' len' cap' _ (HB'.out.keep HG1.out)).mono ?_
  rintro e w2 ⟨n, rfl, hsn, hb2⟩
  have HG2 : Hid (Below w.heap.size w w2) := HG1.out.trans (hb2.mono HG1.out.size)
  clear hb2 HG1
  go_wp2_with fail
  refine (drawKeyBal_any a len cap _ (HB.out.keep HG2.out)).mono ?_
  rintro e w3 ⟨s, c, rfl, hfs, hsc, hb3⟩
  have HG3 : Hid (Below w.heap.size w w3) := HG2.out.trans (hb3.mono HG2.out.size)
  clear hb3 HG2
  go_wp2_with fail
  refine (drawKeyOk_any a' len' cap' _ (HB'.out.keep HG3.out)).mono ?_
  rintro e w4 ⟨t, rfl, hft, hb4⟩
  have HG4 : Hid (Below w.heap.size w w4) := HG3.out.trans (hb4.mono HG3.out.size)
  clear hb4 HG3
  have HS : Hid (s.size ≤ maxLen) := by show s.size ≤ maxLen; unfold FewK at hfs; unfold maxLen; omega
  have HT : Hid (t.size ≤ maxLen) := by show t.size ≤ maxLen; unfold FewK at hft; unfold maxLen; omega
  unfold SmallK at hsc hsm hsn
  obtain ⟨hc5, hc6⟩ := hsc
  obtain ⟨hm5, hm6⟩ := hsm
  obtain ⟨hn5, hn6⟩ := hsn
  have hms := HS.out
  have hmt := HT.out
  unfold maxLen at hms hmt
  clear HB HB' hfs hft
  obtain ⟨x, hx⟩ : ∃ x, x = keyN 105 m 99 := ⟨_, rfl⟩
  obtain ⟨y, hy⟩ : ∃ y, y = keyN 106 n 99 := ⟨_, rfl⟩
  obtain ⟨z, hz⟩ : ∃ z, z = keyBalB s c := ⟨_, rfl⟩
  obtain ⟨p, hp⟩ : ∃ p, p = keyN 105 n 99 := ⟨_, rfl⟩
  obtain ⟨q, hq⟩ : ∃ q, q = keyN 106 m 99 := ⟨_, rfl⟩
  obtain ⟨k, hk⟩ : ∃ k, k = keyB t := ⟨_, rfl⟩
  have cxI : ∀ w, Calls Tryd.prog 13 #[.int .i64 m] w fun e w' => e = .returned (.string x) ∧ Below w.heap.size w w' := by rw [hx]; exact fun w => implKeyId m w
  have cyI : ∀ w, Calls Tryd.prog 14 #[.int .i64 n] w fun e w' => e = .returned (.string y) ∧ Below w.heap.size w w' := by rw [hy]; exact fun w => implKeyLog n w
  have cxS : ∀ w, Calls Tryd.prog 15 #[.int .i64 m] w fun e w' => e = .returned (.string x) ∧ Below w.heap.size w w' := by rw [hx]; exact fun w => specKeyId m w
  have cyS : ∀ w, Calls Tryd.prog 16 #[.int .i64 n] w fun e w' => e = .returned (.string y) ∧ Below w.heap.size w w' := by rw [hy]; exact fun w => specKeyLog n w
  have czI : ∀ w, Calls Tryd.prog 6 #[.string s, .int .i64 c] w fun e w' => e = .returned (.string z) ∧ Below w.heap.size w w' := by rw [hz]; exact fun w => implKeyBal s c w HS.out
  have czS : ∀ w, Calls Tryd.prog 7 #[.string s, .int .i64 c] w fun e w' => e = .returned (.string z) ∧ Below w.heap.size w w' := by rw [hz]; exact fun w => specKeyBal s c w HS.out
  have ckI : ∀ w, Calls Tryd.prog 9 #[.string t] w fun e w' => e = .returned (.bool k) ∧ Below w.heap.size w w' := by rw [hk]; exact fun w => (implKey t w HT.out).mono fun e w' h => ⟨h.1, h.2 ▸ Below.refl _ _⟩
  have ckS : ∀ w, Calls Tryd.prog 17 #[.string t] w fun e w' => e = .returned (.bool k) ∧ Below w.heap.size w w' := by rw [hk]; exact fun w => (specKey t w HT.out).mono fun e w' h => ⟨h.1, h.2 ▸ Below.refl _ _⟩
  have cp : ∀ w, Calls Tryd.prog 13 #[.int .i64 n] w fun e w' => e = .returned (.string p) ∧ Below w.heap.size w w' := by rw [hp]; exact fun w => implKeyId n w
  have cq : ∀ w, Calls Tryd.prog 14 #[.int .i64 m] w fun e w' => e = .returned (.string q) ∧ Below w.heap.size w w' := by rw [hq]; exact fun w => implKeyLog m w
  have hkk : (k != k) = false := by simp
  by_cases hm : m < 0
  · have hx' := hx.trans (keyN_no (Or.inl hm))
    subst hx'
    by_cases hn : n < 0
    · have hy' := hy.trans (keyN_no (Or.inl hn))
      subst hy'
      clear hx hy hz hp hq hk
      go_wp2_with fail
      refine (cxI _).mono ?_
      rintro e z1 ⟨rfl, hz1⟩
      have HGz1 : Hid (Below w.heap.size w z1) := HG4.out.trans (hz1.mono HG4.out.size)
      clear hz1 HG4
      go_wp2_with fail
      refine (cyI _).mono ?_
      rintro e z2 ⟨rfl, hz2⟩
      have HGz2 : Hid (Below w.heap.size w z2) := HGz1.out.trans (hz2.mono HGz1.out.size)
      clear hz2 HGz1
      go_wp2_with fail
      refine (czI _).mono ?_
      rintro e z3 ⟨rfl, hz3⟩
      have HGz3 : Hid (Below w.heap.size w z3) := HGz2.out.trans (hz3.mono HGz2.out.size)
      clear hz3 HGz2
      go_wp2_with fail
      refine (cxS _).mono ?_
      rintro e z4 ⟨rfl, hz4⟩
      have HGz4 : Hid (Below w.heap.size w z4) := HGz3.out.trans (hz4.mono HGz3.out.size)
      clear hz4 HGz3
      go_wp2_with fail
      refine (cyS _).mono ?_
      rintro e z5 ⟨rfl, hz5⟩
      have HGz5 : Hid (Below w.heap.size w z5) := HGz4.out.trans (hz5.mono HGz4.out.size)
      clear hz5 HGz4
      go_wp2_with fail
      refine (czS _).mono ?_
      rintro e z6 ⟨rfl, hz6⟩
      have HGz6 : Hid (Below w.heap.size w z6) := HGz5.out.trans (hz6.mono HGz5.out.size)
      clear hz6 HGz5
      go_wp2_with fail
      refine (ckI _).mono ?_
      rintro e z7 ⟨rfl, hz7⟩
      have HGz7 : Hid (Below w.heap.size w z7) := HGz6.out.trans (hz7.mono HGz6.out.size)
      clear hz7 HGz6
      go_wp2_with fail
      refine (ckS _).mono ?_
      rintro e z8 ⟨rfl, hz8⟩
      have HGz8 : Hid (Below w.heap.size w z8) := HGz7.out.trans (hz8.mono HGz7.out.size)
      clear hz8 HGz7
      go_wp2
      go_ret
      first
        | exact ⟨rfl, HGz8.out⟩
        | exact ⟨ret_bool (by simp; omega), HGz8.out⟩
    have hn0 : ¬ n < 0 := hn
    clear hn
    by_cases hn : 99 < n
    · have hy' := hy.trans (keyN_no (Or.inr hn))
      subst hy'
      clear hx hy hz hp hq hk
      have hnle : ¬ n ≤ 99 := by omega
      have hnle' : decide (n ≤ 99) = false := by simpa using hnle
      go_wp2_with fail
      refine (cxI _).mono ?_
      rintro e z9 ⟨rfl, hz9⟩
      have HGz9 : Hid (Below w.heap.size w z9) := HG4.out.trans (hz9.mono HG4.out.size)
      clear hz9 HG4
      go_wp2_with fail
      refine (cyI _).mono ?_
      rintro e z10 ⟨rfl, hz10⟩
      have HGz10 : Hid (Below w.heap.size w z10) := HGz9.out.trans (hz10.mono HGz9.out.size)
      clear hz10 HGz9
      go_wp2_with fail
      refine (czI _).mono ?_
      rintro e z11 ⟨rfl, hz11⟩
      have HGz11 : Hid (Below w.heap.size w z11) := HGz10.out.trans (hz11.mono HGz10.out.size)
      clear hz11 HGz10
      go_wp2_with fail
      refine (cxS _).mono ?_
      rintro e z12 ⟨rfl, hz12⟩
      have HGz12 : Hid (Below w.heap.size w z12) := HGz11.out.trans (hz12.mono HGz11.out.size)
      clear hz12 HGz11
      go_wp2_with fail
      refine (cyS _).mono ?_
      rintro e z13 ⟨rfl, hz13⟩
      have HGz13 : Hid (Below w.heap.size w z13) := HGz12.out.trans (hz13.mono HGz12.out.size)
      clear hz13 HGz12
      go_wp2_with fail
      refine (czS _).mono ?_
      rintro e z14 ⟨rfl, hz14⟩
      have HGz14 : Hid (Below w.heap.size w z14) := HGz13.out.trans (hz14.mono HGz13.out.size)
      clear hz14 HGz13
      go_wp2_with fail
      refine (ckI _).mono ?_
      rintro e z15 ⟨rfl, hz15⟩
      have HGz15 : Hid (Below w.heap.size w z15) := HGz14.out.trans (hz15.mono HGz14.out.size)
      clear hz15 HGz14
      go_wp2_with fail
      refine (ckS _).mono ?_
      rintro e z16 ⟨rfl, hz16⟩
      have HGz16 : Hid (Below w.heap.size w z16) := HGz15.out.trans (hz16.mono HGz15.out.size)
      clear hz16 HGz15
      go_wp2
      go_ret
      first
        | exact ⟨rfl, HGz16.out⟩
        | exact ⟨ret_bool (by simp; omega), HGz16.out⟩
    have hn1 : ¬ 99 < n := hn
    clear hn
    have hnle : n ≤ 99 := by omega
    have hnge : 0 ≤ n := by omega
    have hyl : y.toList = numL 106 n := by rw [hy, keyN_yes (by omega) (by omega), ByteArray.toList_eq]; rfl
    have hy0 : ¬ y.toList = [] := by rw [hyl]; simp [numL]
    have hy1 : y.toList.isEmpty = false := by simpa using hy0
    clear hyl
    clear hx hy hz hp hq hk
    go_wp2_with fail
    refine (cxI _).mono ?_
    rintro e z17 ⟨rfl, hz17⟩
    have HGz17 : Hid (Below w.heap.size w z17) := HG4.out.trans (hz17.mono HG4.out.size)
    clear hz17 HG4
    go_wp2_with fail
    refine (cyI _).mono ?_
    rintro e z18 ⟨rfl, hz18⟩
    have HGz18 : Hid (Below w.heap.size w z18) := HGz17.out.trans (hz18.mono HGz17.out.size)
    clear hz18 HGz17
    go_wp2_with fail
    refine (czI _).mono ?_
    rintro e z19 ⟨rfl, hz19⟩
    have HGz19 : Hid (Below w.heap.size w z19) := HGz18.out.trans (hz19.mono HGz18.out.size)
    clear hz19 HGz18
    go_wp2_with fail
    refine (cxS _).mono ?_
    rintro e z20 ⟨rfl, hz20⟩
    have HGz20 : Hid (Below w.heap.size w z20) := HGz19.out.trans (hz20.mono HGz19.out.size)
    clear hz20 HGz19
    go_wp2_with fail
    refine (cyS _).mono ?_
    rintro e z21 ⟨rfl, hz21⟩
    have HGz21 : Hid (Below w.heap.size w z21) := HGz20.out.trans (hz21.mono HGz20.out.size)
    clear hz21 HGz20
    go_wp2_with fail
    refine (czS _).mono ?_
    rintro e z22 ⟨rfl, hz22⟩
    have HGz22 : Hid (Below w.heap.size w z22) := HGz21.out.trans (hz22.mono HGz21.out.size)
    clear hz22 HGz21
    go_wp2_with fail
    refine (ckI _).mono ?_
    rintro e z23 ⟨rfl, hz23⟩
    have HGz23 : Hid (Below w.heap.size w z23) := HGz22.out.trans (hz23.mono HGz22.out.size)
    clear hz23 HGz22
    go_wp2_with fail
    refine (ckS _).mono ?_
    rintro e z24 ⟨rfl, hz24⟩
    have HGz24 : Hid (Below w.heap.size w z24) := HGz23.out.trans (hz24.mono HGz23.out.size)
    clear hz24 HGz23
    go_wp2
    go_ret
    first
      | exact ⟨rfl, HGz24.out⟩
      | exact ⟨ret_bool (by simp; omega), HGz24.out⟩
  have hm0 : ¬ m < 0 := hm
  clear hm
  by_cases hm : 99 < m
  · have hx' := hx.trans (keyN_no (Or.inr hm))
    subst hx'
    by_cases hn : n < 0
    · have hy' := hy.trans (keyN_no (Or.inl hn))
      subst hy'
      clear hx hy hz hp hq hk
      go_wp2_with fail
      refine (cxI _).mono ?_
      rintro e z25 ⟨rfl, hz25⟩
      have HGz25 : Hid (Below w.heap.size w z25) := HG4.out.trans (hz25.mono HG4.out.size)
      clear hz25 HG4
      go_wp2_with fail
      refine (cyI _).mono ?_
      rintro e z26 ⟨rfl, hz26⟩
      have HGz26 : Hid (Below w.heap.size w z26) := HGz25.out.trans (hz26.mono HGz25.out.size)
      clear hz26 HGz25
      go_wp2_with fail
      refine (czI _).mono ?_
      rintro e z27 ⟨rfl, hz27⟩
      have HGz27 : Hid (Below w.heap.size w z27) := HGz26.out.trans (hz27.mono HGz26.out.size)
      clear hz27 HGz26
      go_wp2_with fail
      refine (cxS _).mono ?_
      rintro e z28 ⟨rfl, hz28⟩
      have HGz28 : Hid (Below w.heap.size w z28) := HGz27.out.trans (hz28.mono HGz27.out.size)
      clear hz28 HGz27
      go_wp2_with fail
      refine (cyS _).mono ?_
      rintro e z29 ⟨rfl, hz29⟩
      have HGz29 : Hid (Below w.heap.size w z29) := HGz28.out.trans (hz29.mono HGz28.out.size)
      clear hz29 HGz28
      go_wp2_with fail
      refine (czS _).mono ?_
      rintro e z30 ⟨rfl, hz30⟩
      have HGz30 : Hid (Below w.heap.size w z30) := HGz29.out.trans (hz30.mono HGz29.out.size)
      clear hz30 HGz29
      go_wp2_with fail
      refine (ckI _).mono ?_
      rintro e z31 ⟨rfl, hz31⟩
      have HGz31 : Hid (Below w.heap.size w z31) := HGz30.out.trans (hz31.mono HGz30.out.size)
      clear hz31 HGz30
      go_wp2_with fail
      refine (ckS _).mono ?_
      rintro e z32 ⟨rfl, hz32⟩
      have HGz32 : Hid (Below w.heap.size w z32) := HGz31.out.trans (hz32.mono HGz31.out.size)
      clear hz32 HGz31
      go_wp2
      go_ret
      first
        | exact ⟨rfl, HGz32.out⟩
        | exact ⟨ret_bool (by simp; omega), HGz32.out⟩
    have hn0 : ¬ n < 0 := hn
    clear hn
    by_cases hn : 99 < n
    · have hy' := hy.trans (keyN_no (Or.inr hn))
      subst hy'
      clear hx hy hz hp hq hk
      have hnle : ¬ n ≤ 99 := by omega
      have hnle' : decide (n ≤ 99) = false := by simpa using hnle
      go_wp2_with fail
      refine (cxI _).mono ?_
      rintro e z33 ⟨rfl, hz33⟩
      have HGz33 : Hid (Below w.heap.size w z33) := HG4.out.trans (hz33.mono HG4.out.size)
      clear hz33 HG4
      go_wp2_with fail
      refine (cyI _).mono ?_
      rintro e z34 ⟨rfl, hz34⟩
      have HGz34 : Hid (Below w.heap.size w z34) := HGz33.out.trans (hz34.mono HGz33.out.size)
      clear hz34 HGz33
      go_wp2_with fail
      refine (czI _).mono ?_
      rintro e z35 ⟨rfl, hz35⟩
      have HGz35 : Hid (Below w.heap.size w z35) := HGz34.out.trans (hz35.mono HGz34.out.size)
      clear hz35 HGz34
      go_wp2_with fail
      refine (cxS _).mono ?_
      rintro e z36 ⟨rfl, hz36⟩
      have HGz36 : Hid (Below w.heap.size w z36) := HGz35.out.trans (hz36.mono HGz35.out.size)
      clear hz36 HGz35
      go_wp2_with fail
      refine (cyS _).mono ?_
      rintro e z37 ⟨rfl, hz37⟩
      have HGz37 : Hid (Below w.heap.size w z37) := HGz36.out.trans (hz37.mono HGz36.out.size)
      clear hz37 HGz36
      go_wp2_with fail
      refine (czS _).mono ?_
      rintro e z38 ⟨rfl, hz38⟩
      have HGz38 : Hid (Below w.heap.size w z38) := HGz37.out.trans (hz38.mono HGz37.out.size)
      clear hz38 HGz37
      go_wp2_with fail
      refine (ckI _).mono ?_
      rintro e z39 ⟨rfl, hz39⟩
      have HGz39 : Hid (Below w.heap.size w z39) := HGz38.out.trans (hz39.mono HGz38.out.size)
      clear hz39 HGz38
      go_wp2_with fail
      refine (ckS _).mono ?_
      rintro e z40 ⟨rfl, hz40⟩
      have HGz40 : Hid (Below w.heap.size w z40) := HGz39.out.trans (hz40.mono HGz39.out.size)
      clear hz40 HGz39
      go_wp2
      go_ret
      first
        | exact ⟨rfl, HGz40.out⟩
        | exact ⟨ret_bool (by simp; omega), HGz40.out⟩
    have hn1 : ¬ 99 < n := hn
    clear hn
    have hnle : n ≤ 99 := by omega
    have hnge : 0 ≤ n := by omega
    have hyl : y.toList = numL 106 n := by rw [hy, keyN_yes (by omega) (by omega), ByteArray.toList_eq]; rfl
    have hy0 : ¬ y.toList = [] := by rw [hyl]; simp [numL]
    have hy1 : y.toList.isEmpty = false := by simpa using hy0
    clear hyl
    clear hx hy hz hp hq hk
    go_wp2_with fail
    refine (cxI _).mono ?_
    rintro e z41 ⟨rfl, hz41⟩
    have HGz41 : Hid (Below w.heap.size w z41) := HG4.out.trans (hz41.mono HG4.out.size)
    clear hz41 HG4
    go_wp2_with fail
    refine (cyI _).mono ?_
    rintro e z42 ⟨rfl, hz42⟩
    have HGz42 : Hid (Below w.heap.size w z42) := HGz41.out.trans (hz42.mono HGz41.out.size)
    clear hz42 HGz41
    go_wp2_with fail
    refine (czI _).mono ?_
    rintro e z43 ⟨rfl, hz43⟩
    have HGz43 : Hid (Below w.heap.size w z43) := HGz42.out.trans (hz43.mono HGz42.out.size)
    clear hz43 HGz42
    go_wp2_with fail
    refine (cxS _).mono ?_
    rintro e z44 ⟨rfl, hz44⟩
    have HGz44 : Hid (Below w.heap.size w z44) := HGz43.out.trans (hz44.mono HGz43.out.size)
    clear hz44 HGz43
    go_wp2_with fail
    refine (cyS _).mono ?_
    rintro e z45 ⟨rfl, hz45⟩
    have HGz45 : Hid (Below w.heap.size w z45) := HGz44.out.trans (hz45.mono HGz44.out.size)
    clear hz45 HGz44
    go_wp2_with fail
    refine (czS _).mono ?_
    rintro e z46 ⟨rfl, hz46⟩
    have HGz46 : Hid (Below w.heap.size w z46) := HGz45.out.trans (hz46.mono HGz45.out.size)
    clear hz46 HGz45
    go_wp2_with fail
    refine (ckI _).mono ?_
    rintro e z47 ⟨rfl, hz47⟩
    have HGz47 : Hid (Below w.heap.size w z47) := HGz46.out.trans (hz47.mono HGz46.out.size)
    clear hz47 HGz46
    go_wp2_with fail
    refine (ckS _).mono ?_
    rintro e z48 ⟨rfl, hz48⟩
    have HGz48 : Hid (Below w.heap.size w z48) := HGz47.out.trans (hz48.mono HGz47.out.size)
    clear hz48 HGz47
    go_wp2
    go_ret
    first
      | exact ⟨rfl, HGz48.out⟩
      | exact ⟨ret_bool (by simp; omega), HGz48.out⟩
  have hm1 : ¬ 99 < m := hm
  clear hm
  have hmle : m ≤ 99 := by omega
  have hmge : 0 ≤ m := by omega
  have hxl : x.toList = numL 105 m := by rw [hx, keyN_yes (by omega) (by omega), ByteArray.toList_eq]; rfl
  have hx0 : ¬ x.toList = [] := by rw [hxl]; simp [numL]
  have hx1 : x.toList.isEmpty = false := by simpa using hx0
  by_cases hn : n < 0
  · have hy' := hy.trans (keyN_no (Or.inl hn))
    subst hy'
    clear hx hy hz hp hq hk
    go_wp2_with fail
    refine (cxI _).mono ?_
    rintro e z49 ⟨rfl, hz49⟩
    have HGz49 : Hid (Below w.heap.size w z49) := HG4.out.trans (hz49.mono HG4.out.size)
    clear hz49 HG4
    go_wp2_with fail
    refine (cyI _).mono ?_
    rintro e z50 ⟨rfl, hz50⟩
    have HGz50 : Hid (Below w.heap.size w z50) := HGz49.out.trans (hz50.mono HGz49.out.size)
    clear hz50 HGz49
    go_wp2_with fail
    refine (czI _).mono ?_
    rintro e z51 ⟨rfl, hz51⟩
    have HGz51 : Hid (Below w.heap.size w z51) := HGz50.out.trans (hz51.mono HGz50.out.size)
    clear hz51 HGz50
    go_wp2_with fail
    refine (cxS _).mono ?_
    rintro e z52 ⟨rfl, hz52⟩
    have HGz52 : Hid (Below w.heap.size w z52) := HGz51.out.trans (hz52.mono HGz51.out.size)
    clear hz52 HGz51
    go_wp2_with fail
    refine (cyS _).mono ?_
    rintro e z53 ⟨rfl, hz53⟩
    have HGz53 : Hid (Below w.heap.size w z53) := HGz52.out.trans (hz53.mono HGz52.out.size)
    clear hz53 HGz52
    go_wp2_with fail
    refine (czS _).mono ?_
    rintro e z54 ⟨rfl, hz54⟩
    have HGz54 : Hid (Below w.heap.size w z54) := HGz53.out.trans (hz54.mono HGz53.out.size)
    clear hz54 HGz53
    go_wp2_with fail
    refine (ckI _).mono ?_
    rintro e z55 ⟨rfl, hz55⟩
    have HGz55 : Hid (Below w.heap.size w z55) := HGz54.out.trans (hz55.mono HGz54.out.size)
    clear hz55 HGz54
    go_wp2_with fail
    refine (ckS _).mono ?_
    rintro e z56 ⟨rfl, hz56⟩
    have HGz56 : Hid (Below w.heap.size w z56) := HGz55.out.trans (hz56.mono HGz55.out.size)
    clear hz56 HGz55
    go_wp2
    go_ret
    first
      | exact ⟨rfl, HGz56.out⟩
      | exact ⟨ret_bool (by simp; omega), HGz56.out⟩
  have hn0 : ¬ n < 0 := hn
  clear hn
  by_cases hn : 99 < n
  · have hy' := hy.trans (keyN_no (Or.inr hn))
    subst hy'
    clear hx hy hz hp hq hk
    have hnle : ¬ n ≤ 99 := by omega
    have hnle' : decide (n ≤ 99) = false := by simpa using hnle
    go_wp2_with fail
    refine (cxI _).mono ?_
    rintro e z57 ⟨rfl, hz57⟩
    have HGz57 : Hid (Below w.heap.size w z57) := HG4.out.trans (hz57.mono HG4.out.size)
    clear hz57 HG4
    go_wp2_with fail
    refine (cyI _).mono ?_
    rintro e z58 ⟨rfl, hz58⟩
    have HGz58 : Hid (Below w.heap.size w z58) := HGz57.out.trans (hz58.mono HGz57.out.size)
    clear hz58 HGz57
    go_wp2_with fail
    refine (czI _).mono ?_
    rintro e z59 ⟨rfl, hz59⟩
    have HGz59 : Hid (Below w.heap.size w z59) := HGz58.out.trans (hz59.mono HGz58.out.size)
    clear hz59 HGz58
    go_wp2_with fail
    refine (cxS _).mono ?_
    rintro e z60 ⟨rfl, hz60⟩
    have HGz60 : Hid (Below w.heap.size w z60) := HGz59.out.trans (hz60.mono HGz59.out.size)
    clear hz60 HGz59
    go_wp2_with fail
    refine (cyS _).mono ?_
    rintro e z61 ⟨rfl, hz61⟩
    have HGz61 : Hid (Below w.heap.size w z61) := HGz60.out.trans (hz61.mono HGz60.out.size)
    clear hz61 HGz60
    go_wp2_with fail
    refine (czS _).mono ?_
    rintro e z62 ⟨rfl, hz62⟩
    have HGz62 : Hid (Below w.heap.size w z62) := HGz61.out.trans (hz62.mono HGz61.out.size)
    clear hz62 HGz61
    go_wp2_with fail
    refine (ckI _).mono ?_
    rintro e z63 ⟨rfl, hz63⟩
    have HGz63 : Hid (Below w.heap.size w z63) := HGz62.out.trans (hz63.mono HGz62.out.size)
    clear hz63 HGz62
    go_wp2_with fail
    refine (ckS _).mono ?_
    rintro e z64 ⟨rfl, hz64⟩
    have HGz64 : Hid (Below w.heap.size w z64) := HGz63.out.trans (hz64.mono HGz63.out.size)
    clear hz64 HGz63
    go_wp2
    go_ret
    first
      | exact ⟨rfl, HGz64.out⟩
      | exact ⟨ret_bool (by simp; omega), HGz64.out⟩
  have hn1 : ¬ 99 < n := hn
  clear hn
  have hnle : n ≤ 99 := by omega
  have hnge : 0 ≤ n := by omega
  have hyl : y.toList = numL 106 n := by rw [hy, keyN_yes (by omega) (by omega), ByteArray.toList_eq]; rfl
  have hy0 : ¬ y.toList = [] := by rw [hyl]; simp [numL]
  have hy1 : y.toList.isEmpty = false := by simpa using hy0
  have eqx : x = numKey 105 m := by rw [hx, keyN_yes (by omega) (by omega)]
  have eqy : y = numKey 106 n := by rw [hy, keyN_yes (by omega) (by omega)]
  have eqp : p = numKey 105 n := by rw [hp, keyN_yes (by omega) (by omega)]
  have eqq : q = numKey 106 m := by rw [hq, keyN_yes (by omega) (by omega)]
  have lzx : Op.bytesLess z.toList x.toList = true := by rw [hz, eqx]; exact bal_ahead s c m
  have lxy : Op.bytesLess x.toList y.toList = true := by rw [eqx, eqy]; exact id_ahead m n
  have lxp : Op.bytesLess x.toList p.toList = decide (m < n) := by rw [eqx, eqp, ByteArray.toList_eq, ByteArray.toList_eq]; exact num_less (by omega) (by omega) (by omega) (by omega)
  have lqy : Op.bytesLess q.toList y.toList = decide (m < n) := by rw [eqq, eqy, ByteArray.toList_eq, ByteArray.toList_eq]; exact num_less (by omega) (by omega) (by omega) (by omega)
  have bx : keyB x = true := keyB_num (x := 105) (n := m) (by decide) (by omega) (by omega) x (by rw [eqx]; rfl)
  have by' : keyB y = true := keyB_num (x := 106) (n := n) (by decide) (by omega) (by omega) y (by rw [eqy]; rfl)
  have zx : x.size ≤ maxLen := by rw [eqx]; exact num_size _ _
  have zy : y.size ≤ maxLen := by rw [eqy]; exact num_size _ _
  have cx : ∀ w, Calls Tryd.prog 9 #[.string x] w fun e w' => e = .returned (.bool true) ∧ Below w.heap.size w w' := by rw [← bx]; exact fun w => (implKey x w zx).mono fun e w' h => ⟨h.1, h.2 ▸ Below.refl _ _⟩
  have cy : ∀ w, Calls Tryd.prog 9 #[.string y] w fun e w' => e = .returned (.bool true) ∧ Below w.heap.size w w' := by rw [← by']; exact fun w => (implKey y w zy).mono fun e w' h => ⟨h.1, h.2 ▸ Below.refl _ _⟩
  clear eqx eqy eqp eqq bx by' zx zy hxl hyl hx hy hz hp hq hk
  by_cases hlt : m < n
  · rw [decide_eq_true hlt] at lxp lqy
    go_wp2_with fail
    refine (cxI _).mono ?_
    rintro e z65 ⟨rfl, hz65⟩
    have HGz65 : Hid (Below w.heap.size w z65) := HG4.out.trans (hz65.mono HG4.out.size)
    clear hz65 HG4
    go_wp2_with fail
    refine (cyI _).mono ?_
    rintro e z66 ⟨rfl, hz66⟩
    have HGz66 : Hid (Below w.heap.size w z66) := HGz65.out.trans (hz66.mono HGz65.out.size)
    clear hz66 HGz65
    go_wp2_with fail
    refine (czI _).mono ?_
    rintro e z67 ⟨rfl, hz67⟩
    have HGz67 : Hid (Below w.heap.size w z67) := HGz66.out.trans (hz67.mono HGz66.out.size)
    clear hz67 HGz66
    go_wp2_with fail
    refine (cxS _).mono ?_
    rintro e z68 ⟨rfl, hz68⟩
    have HGz68 : Hid (Below w.heap.size w z68) := HGz67.out.trans (hz68.mono HGz67.out.size)
    clear hz68 HGz67
    go_wp2_with fail
    refine (cyS _).mono ?_
    rintro e z69 ⟨rfl, hz69⟩
    have HGz69 : Hid (Below w.heap.size w z69) := HGz68.out.trans (hz69.mono HGz68.out.size)
    clear hz69 HGz68
    go_wp2_with fail
    refine (czS _).mono ?_
    rintro e z70 ⟨rfl, hz70⟩
    have HGz70 : Hid (Below w.heap.size w z70) := HGz69.out.trans (hz70.mono HGz69.out.size)
    clear hz70 HGz69
    go_wp2_with fail
    refine (ckI _).mono ?_
    rintro e z71 ⟨rfl, hz71⟩
    have HGz71 : Hid (Below w.heap.size w z71) := HGz70.out.trans (hz71.mono HGz70.out.size)
    clear hz71 HGz70
    go_wp2_with fail
    refine (ckS _).mono ?_
    rintro e z72 ⟨rfl, hz72⟩
    have HGz72 : Hid (Below w.heap.size w z72) := HGz71.out.trans (hz72.mono HGz71.out.size)
    clear hz72 HGz71
    go_wp2_with fail
    refine (cp _).mono ?_
    rintro e z73 ⟨rfl, hz73⟩
    have HGz73 : Hid (Below w.heap.size w z73) := HGz72.out.trans (hz73.mono HGz72.out.size)
    clear hz73 HGz72
    go_wp2_with fail
    refine (cq _).mono ?_
    rintro e z74 ⟨rfl, hz74⟩
    have HGz74 : Hid (Below w.heap.size w z74) := HGz73.out.trans (hz74.mono HGz73.out.size)
    clear hz74 HGz73
    go_wp2_with fail
    refine (cx _).mono ?_
    rintro e z75 ⟨rfl, hz75⟩
    have HGz75 : Hid (Below w.heap.size w z75) := HGz74.out.trans (hz75.mono HGz74.out.size)
    clear hz75 HGz74
    go_wp2_with fail
    refine (cy _).mono ?_
    rintro e z76 ⟨rfl, hz76⟩
    have HGz76 : Hid (Below w.heap.size w z76) := HGz75.out.trans (hz76.mono HGz75.out.size)
    clear hz76 HGz75
    go_wp2
    go_ret
    first
      | exact ⟨rfl, HGz76.out⟩
      | exact ⟨ret_bool (by simp; omega), HGz76.out⟩
  · rw [decide_eq_false hlt] at lxp lqy
    go_wp2_with fail
    refine (cxI _).mono ?_
    rintro e z77 ⟨rfl, hz77⟩
    have HGz77 : Hid (Below w.heap.size w z77) := HG4.out.trans (hz77.mono HG4.out.size)
    clear hz77 HG4
    go_wp2_with fail
    refine (cyI _).mono ?_
    rintro e z78 ⟨rfl, hz78⟩
    have HGz78 : Hid (Below w.heap.size w z78) := HGz77.out.trans (hz78.mono HGz77.out.size)
    clear hz78 HGz77
    go_wp2_with fail
    refine (czI _).mono ?_
    rintro e z79 ⟨rfl, hz79⟩
    have HGz79 : Hid (Below w.heap.size w z79) := HGz78.out.trans (hz79.mono HGz78.out.size)
    clear hz79 HGz78
    go_wp2_with fail
    refine (cxS _).mono ?_
    rintro e z80 ⟨rfl, hz80⟩
    have HGz80 : Hid (Below w.heap.size w z80) := HGz79.out.trans (hz80.mono HGz79.out.size)
    clear hz80 HGz79
    go_wp2_with fail
    refine (cyS _).mono ?_
    rintro e z81 ⟨rfl, hz81⟩
    have HGz81 : Hid (Below w.heap.size w z81) := HGz80.out.trans (hz81.mono HGz80.out.size)
    clear hz81 HGz80
    go_wp2_with fail
    refine (czS _).mono ?_
    rintro e z82 ⟨rfl, hz82⟩
    have HGz82 : Hid (Below w.heap.size w z82) := HGz81.out.trans (hz82.mono HGz81.out.size)
    clear hz82 HGz81
    go_wp2_with fail
    refine (ckI _).mono ?_
    rintro e z83 ⟨rfl, hz83⟩
    have HGz83 : Hid (Below w.heap.size w z83) := HGz82.out.trans (hz83.mono HGz82.out.size)
    clear hz83 HGz82
    go_wp2_with fail
    refine (ckS _).mono ?_
    rintro e z84 ⟨rfl, hz84⟩
    have HGz84 : Hid (Below w.heap.size w z84) := HGz83.out.trans (hz84.mono HGz83.out.size)
    clear hz84 HGz83
    go_wp2_with fail
    refine (cp _).mono ?_
    rintro e z85 ⟨rfl, hz85⟩
    have HGz85 : Hid (Below w.heap.size w z85) := HGz84.out.trans (hz85.mono HGz84.out.size)
    clear hz85 HGz84
    go_wp2_with fail
    refine (cq _).mono ?_
    rintro e z86 ⟨rfl, hz86⟩
    have HGz86 : Hid (Below w.heap.size w z86) := HGz85.out.trans (hz86.mono HGz85.out.size)
    clear hz86 HGz85
    go_wp2_with fail
    refine (cx _).mono ?_
    rintro e z87 ⟨rfl, hz87⟩
    have HGz87 : Hid (Below w.heap.size w z87) := HGz86.out.trans (hz87.mono HGz86.out.size)
    clear hz87 HGz86
    go_wp2_with fail
    refine (cy _).mono ?_
    rintro e z88 ⟨rfl, hz88⟩
    have HGz88 : Hid (Below w.heap.size w z88) := HGz87.out.trans (hz88.mono HGz87.out.size)
    clear hz88 HGz87
    go_wp2
    go_ret
    first
      | exact ⟨rfl, HGz88.out⟩
      | exact ⟨ret_bool (by simp; omega), HGz88.out⟩

end Go.Proofs.YtinefencifbjnaaDoor
