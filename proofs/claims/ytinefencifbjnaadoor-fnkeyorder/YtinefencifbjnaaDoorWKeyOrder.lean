/-
  The walk of the law FnKeyOrder: it answers true at all bytes.
-/
import Derived.Test.YtinefencifbjnaaDoorKeyBalW
import Derived.Test.YtinefencifbjnaaDoorKeyOrdP
import Derived.Test.YtinefencifbjnaaDoorKey
import Derived.Test.YtinefencifbjnaaDoorDrawKey
import Derived.Test.YtinefencifbjnaaDoorBytes
namespace Go.Proofs.YtinefencifbjnaaDoor
open Go.RowKit Go.Shelf

theorem keyBal_list {s : ByteArray} {c : Int} (h : acctB s = true) (h1 : 1 ≤ c) (h2 : c ≤ 3) : (keyBalB s c).data.toList = balL s c := by
  rw [keyBal_yes h h1 h2]
  simp [balL]
theorem ret_true {b : Bool} (h : b = true) : Ending.returned (.bool b) = .returned (.bool true) := by rw [h]
theorem bytes_self : ∀ l : List UInt8, Op.bytesLess l l = false
  | [] => rfl
  | x :: l => by unfold Op.bytesLess; simp [bytes_self l]

set_option maxRecDepth 100000 in
set_option maxHeartbeats 8000000 in
theorem walkFnKeyOrder (a : Option Addr) (len cap : Nat) (a' : Option Addr) (len' cap' : Nat) (w : World) (hb : BytesAt w a len cap) (hb' : BytesAt w a' len' cap') :
    Calls Tryd.prog 3 #[.slice a len cap, .slice a' len' cap'] w fun e w' => e = .returned (.bool true) ∧ Below w.heap.size w w' := by
  have HB : Hid (BytesAt w a len cap) := hb
  have HB' : Hid (BytesAt w a' len' cap') := hb'
  have hc1 := hb.1
  have hc2 := hb.2.1
  have hc3 := hb'.1
  have hc4 := hb'.2.1
  unfold maxLen at hc2 hc4
  clear hb hb'
  by_cases hbig : 1048576 < len
  · go_enter Tryd.func3, Tryd.ntmps3
    go_wp2
    go_ret
    exact ⟨rfl, Below.refl _ _⟩
  by_cases hbig2 : 1048576 < len'
  · go_enter Tryd.func3, Tryd.ntmps3
    go_wp2
    go_ret
    exact ⟨rfl, Below.refl _ _⟩
  go_enter Tryd.func3, Tryd.ntmps3
  go_wp2_with fail
  refine (drawKeyBal_any a len cap _ HB.out).mono ?_
  rintro e w1 ⟨s, c, rfl, hfs, hsc, hb1⟩
  have HG1 : Hid (Below w.heap.size w w1) := hb1
  clear hb1
  go_wp2_with fail
  refine (drawKeyBal_any a' len' cap' _ (HB'.out.keep HG1.out)).mono ?_
  rintro e w2 ⟨t, d, rfl, hft, hsd, hb2⟩
  have HG2 : Hid (Below w.heap.size w w2) := HG1.out.trans (hb2.mono HG1.out.size)
  have HS : Hid (s.size ≤ maxLen) := by show s.size ≤ maxLen; unfold FewK at hfs; unfold maxLen; omega
  have HT : Hid (t.size ≤ maxLen) := by show t.size ≤ maxLen; unfold FewK at hft; unfold maxLen; omega
  unfold SmallK at hsc hsd
  obtain ⟨hc5, hc6⟩ := hsc
  obtain ⟨hd5, hd6⟩ := hsd
  have hms := HS.out
  have hmt := HT.out
  unfold maxLen at hms hmt
  clear hb2 HG1 HB HB' hfs hft
  obtain ⟨x, hx⟩ : ∃ x, x = keyBalB s c := ⟨_, rfl⟩
  obtain ⟨y, hy⟩ : ∃ y, y = keyBalB t d := ⟨_, rfl⟩
  have cxI : ∀ w, Calls Tryd.prog 6 #[.string s, .int .i64 c] w fun e w' => e = .returned (.string x) ∧ Below w.heap.size w w' := by rw [hx]; exact fun w => implKeyBal s c w HS.out
  have cyI : ∀ w, Calls Tryd.prog 6 #[.string t, .int .i64 d] w fun e w' => e = .returned (.string y) ∧ Below w.heap.size w w' := by rw [hy]; exact fun w => implKeyBal t d w HT.out
  have cxS : ∀ w, Calls Tryd.prog 7 #[.string s, .int .i64 c] w fun e w' => e = .returned (.string x) ∧ Below w.heap.size w w' := by rw [hx]; exact fun w => specKeyBal s c w HS.out
  have cyS : ∀ w, Calls Tryd.prog 7 #[.string t, .int .i64 d] w fun e w' => e = .returned (.string y) ∧ Below w.heap.size w w' := by rw [hy]; exact fun w => specKeyBal t d w HT.out
  cases hs : acctB s with
  | false =>
    have hx' := hx.trans (keyBal_no1 hs)
    subst hx'
    have ca : ∀ w, Calls Tryd.prog 8 #[.string s] w fun e w' => e = .returned (.bool false) ∧ Below w.heap.size w w' := by rw [← hs]; exact fun w => implAcct s w HS.out
    clear hx hy
    go_wp2_with fail
    refine (cxI _).mono ?_
    rintro e z1 ⟨rfl, hz1⟩
    have HGz1 : Hid (Below w.heap.size w z1) := HG2.out.trans (hz1.mono HG2.out.size)
    clear hz1 HG2
    go_wp2_with fail
    refine (cyI _).mono ?_
    rintro e z2 ⟨rfl, hz2⟩
    have HGz2 : Hid (Below w.heap.size w z2) := HGz1.out.trans (hz2.mono HGz1.out.size)
    clear hz2 HGz1
    go_wp2_with fail
    refine (cxS _).mono ?_
    rintro e z3 ⟨rfl, hz3⟩
    have HGz3 : Hid (Below w.heap.size w z3) := HGz2.out.trans (hz3.mono HGz2.out.size)
    clear hz3 HGz2
    go_wp2_with fail
    refine (cyS _).mono ?_
    rintro e z4 ⟨rfl, hz4⟩
    have HGz4 : Hid (Below w.heap.size w z4) := HGz3.out.trans (hz4.mono HGz3.out.size)
    clear hz4 HGz3
    go_wp2_with fail
    refine (ca _).mono ?_
    rintro e z5 ⟨rfl, hz5⟩
    have HGz5 : Hid (Below w.heap.size w z5) := HGz4.out.trans (hz5.mono HGz4.out.size)
    clear hz5 HGz4
    go_wp2
    go_ret
    first
      | exact ⟨rfl, HGz5.out⟩
      | exact ⟨ret_true (by simp; omega), HGz5.out⟩
      | exact ⟨ret_true (by simpa using hx0), HGz5.out⟩
  | true =>
    have ca : ∀ w, Calls Tryd.prog 8 #[.string s] w fun e w' => e = .returned (.bool true) ∧ Below w.heap.size w w' := by rw [← hs]; exact fun w => implAcct s w HS.out
    by_cases hh : c < 1
    · have hx' := hx.trans (keyBal_no2 hh)
      subst hx'
      clear hx hy
      go_wp2_with fail
      refine (cxI _).mono ?_
      rintro e z6 ⟨rfl, hz6⟩
      have HGz6 : Hid (Below w.heap.size w z6) := HG2.out.trans (hz6.mono HG2.out.size)
      clear hz6 HG2
      go_wp2_with fail
      refine (cyI _).mono ?_
      rintro e z7 ⟨rfl, hz7⟩
      have HGz7 : Hid (Below w.heap.size w z7) := HGz6.out.trans (hz7.mono HGz6.out.size)
      clear hz7 HGz6
      go_wp2_with fail
      refine (cxS _).mono ?_
      rintro e z8 ⟨rfl, hz8⟩
      have HGz8 : Hid (Below w.heap.size w z8) := HGz7.out.trans (hz8.mono HGz7.out.size)
      clear hz8 HGz7
      go_wp2_with fail
      refine (cyS _).mono ?_
      rintro e z9 ⟨rfl, hz9⟩
      have HGz9 : Hid (Below w.heap.size w z9) := HGz8.out.trans (hz9.mono HGz8.out.size)
      clear hz9 HGz8
      go_wp2_with fail
      refine (ca _).mono ?_
      rintro e z10 ⟨rfl, hz10⟩
      have HGz10 : Hid (Below w.heap.size w z10) := HGz9.out.trans (hz10.mono HGz9.out.size)
      clear hz10 HGz9
      go_wp2
      go_ret
      first
        | exact ⟨rfl, HGz10.out⟩
        | exact ⟨ret_true (by simp; omega), HGz10.out⟩
        | exact ⟨ret_true (by simpa using hx0), HGz10.out⟩
    have h_keyBal_no2 : ¬ c < 1 := hh
    clear hh
    by_cases hh : 3 < c
    · have hx' := hx.trans (keyBal_no3 hh)
      subst hx'
      clear hx hy
      go_wp2_with fail
      refine (cxI _).mono ?_
      rintro e z11 ⟨rfl, hz11⟩
      have HGz11 : Hid (Below w.heap.size w z11) := HG2.out.trans (hz11.mono HG2.out.size)
      clear hz11 HG2
      go_wp2_with fail
      refine (cyI _).mono ?_
      rintro e z12 ⟨rfl, hz12⟩
      have HGz12 : Hid (Below w.heap.size w z12) := HGz11.out.trans (hz12.mono HGz11.out.size)
      clear hz12 HGz11
      go_wp2_with fail
      refine (cxS _).mono ?_
      rintro e z13 ⟨rfl, hz13⟩
      have HGz13 : Hid (Below w.heap.size w z13) := HGz12.out.trans (hz13.mono HGz12.out.size)
      clear hz13 HGz12
      go_wp2_with fail
      refine (cyS _).mono ?_
      rintro e z14 ⟨rfl, hz14⟩
      have HGz14 : Hid (Below w.heap.size w z14) := HGz13.out.trans (hz14.mono HGz13.out.size)
      clear hz14 HGz13
      go_wp2_with fail
      refine (ca _).mono ?_
      rintro e z15 ⟨rfl, hz15⟩
      have HGz15 : Hid (Below w.heap.size w z15) := HGz14.out.trans (hz15.mono HGz14.out.size)
      clear hz15 HGz14
      go_wp2
      go_ret
      first
        | exact ⟨rfl, HGz15.out⟩
        | exact ⟨ret_true (by simp; omega), HGz15.out⟩
        | exact ⟨ret_true (by simpa using hx0), HGz15.out⟩
    have h_keyBal_no3 : ¬ 3 < c := hh
    clear hh
    have hcl : 1 ≤ c := by omega
    have hcm : c ≤ 3 := by omega
    have hxl := keyBal_list hs hcl hcm
    rw [← hx] at hxl
    have hx0 : ¬ x.toList = [] := by rw [ByteArray.toList_eq, hxl]; simp [balL]
    have hx1 : x.toList.isEmpty = false := by simpa using hx0
    by_cases hh : acctB t = false
    · have hy' := hy.trans (keyBal_no1 hh)
      subst hy'
      clear hx hy hxl
      go_wp2_with fail
      refine (cxI _).mono ?_
      rintro e z16 ⟨rfl, hz16⟩
      have HGz16 : Hid (Below w.heap.size w z16) := HG2.out.trans (hz16.mono HG2.out.size)
      clear hz16 HG2
      go_wp2_with fail
      refine (cyI _).mono ?_
      rintro e z17 ⟨rfl, hz17⟩
      have HGz17 : Hid (Below w.heap.size w z17) := HGz16.out.trans (hz17.mono HGz16.out.size)
      clear hz17 HGz16
      go_wp2_with fail
      refine (cxS _).mono ?_
      rintro e z18 ⟨rfl, hz18⟩
      have HGz18 : Hid (Below w.heap.size w z18) := HGz17.out.trans (hz18.mono HGz17.out.size)
      clear hz18 HGz17
      go_wp2_with fail
      refine (cyS _).mono ?_
      rintro e z19 ⟨rfl, hz19⟩
      have HGz19 : Hid (Below w.heap.size w z19) := HGz18.out.trans (hz19.mono HGz18.out.size)
      clear hz19 HGz18
      go_wp2_with fail
      refine (ca _).mono ?_
      rintro e z20 ⟨rfl, hz20⟩
      have HGz20 : Hid (Below w.heap.size w z20) := HGz19.out.trans (hz20.mono HGz19.out.size)
      clear hz20 HGz19
      go_wp2
      go_ret
      first
        | exact ⟨rfl, HGz20.out⟩
        | exact ⟨ret_true (by simp; omega), HGz20.out⟩
        | exact ⟨ret_true (by simpa using hx0), HGz20.out⟩
    have ht : acctB t = true := by simpa using hh
    clear hh
    by_cases hh : d < 1
    · have hy' := hy.trans (keyBal_no2 hh)
      subst hy'
      clear hx hy hxl
      go_wp2_with fail
      refine (cxI _).mono ?_
      rintro e z21 ⟨rfl, hz21⟩
      have HGz21 : Hid (Below w.heap.size w z21) := HG2.out.trans (hz21.mono HG2.out.size)
      clear hz21 HG2
      go_wp2_with fail
      refine (cyI _).mono ?_
      rintro e z22 ⟨rfl, hz22⟩
      have HGz22 : Hid (Below w.heap.size w z22) := HGz21.out.trans (hz22.mono HGz21.out.size)
      clear hz22 HGz21
      go_wp2_with fail
      refine (cxS _).mono ?_
      rintro e z23 ⟨rfl, hz23⟩
      have HGz23 : Hid (Below w.heap.size w z23) := HGz22.out.trans (hz23.mono HGz22.out.size)
      clear hz23 HGz22
      go_wp2_with fail
      refine (cyS _).mono ?_
      rintro e z24 ⟨rfl, hz24⟩
      have HGz24 : Hid (Below w.heap.size w z24) := HGz23.out.trans (hz24.mono HGz23.out.size)
      clear hz24 HGz23
      go_wp2_with fail
      refine (ca _).mono ?_
      rintro e z25 ⟨rfl, hz25⟩
      have HGz25 : Hid (Below w.heap.size w z25) := HGz24.out.trans (hz25.mono HGz24.out.size)
      clear hz25 HGz24
      go_wp2
      go_ret
      first
        | exact ⟨rfl, HGz25.out⟩
        | exact ⟨ret_true (by simp; omega), HGz25.out⟩
        | exact ⟨ret_true (by simpa using hx0), HGz25.out⟩
    have g_keyBal_no2 : ¬ d < 1 := hh
    clear hh
    by_cases hh : 3 < d
    · have hy' := hy.trans (keyBal_no3 hh)
      subst hy'
      clear hx hy hxl
      go_wp2_with fail
      refine (cxI _).mono ?_
      rintro e z26 ⟨rfl, hz26⟩
      have HGz26 : Hid (Below w.heap.size w z26) := HG2.out.trans (hz26.mono HG2.out.size)
      clear hz26 HG2
      go_wp2_with fail
      refine (cyI _).mono ?_
      rintro e z27 ⟨rfl, hz27⟩
      have HGz27 : Hid (Below w.heap.size w z27) := HGz26.out.trans (hz27.mono HGz26.out.size)
      clear hz27 HGz26
      go_wp2_with fail
      refine (cxS _).mono ?_
      rintro e z28 ⟨rfl, hz28⟩
      have HGz28 : Hid (Below w.heap.size w z28) := HGz27.out.trans (hz28.mono HGz27.out.size)
      clear hz28 HGz27
      go_wp2_with fail
      refine (cyS _).mono ?_
      rintro e z29 ⟨rfl, hz29⟩
      have HGz29 : Hid (Below w.heap.size w z29) := HGz28.out.trans (hz29.mono HGz28.out.size)
      clear hz29 HGz28
      go_wp2_with fail
      refine (ca _).mono ?_
      rintro e z30 ⟨rfl, hz30⟩
      have HGz30 : Hid (Below w.heap.size w z30) := HGz29.out.trans (hz30.mono HGz29.out.size)
      clear hz30 HGz29
      go_wp2
      go_ret
      first
        | exact ⟨rfl, HGz30.out⟩
        | exact ⟨ret_true (by simp; omega), HGz30.out⟩
        | exact ⟨ret_true (by simpa using hx0), HGz30.out⟩
    have g_keyBal_no3 : ¬ 3 < d := hh
    clear hh
    have hdl : 1 ≤ d := by omega
    have hdm : d ≤ 3 := by omega
    have hyl := keyBal_list ht hdl hdm
    rw [← hy] at hyl
    have hy0 : ¬ y.toList = [] := by rw [ByteArray.toList_eq, hyl]; simp [balL]
    have hy1 : y.toList.isEmpty = false := by simpa using hy0
    have hkx := keyB_bal hs hcl hcm x hxl
    have hxs : x.size ≤ maxLen := by
      have h1 : x.data.toList.length = x.size := by simp
      have h2 := acct_size hs
      have h3 : s.data.toList.length = s.size := by simp
      rw [hxl] at h1
      unfold balL at h1
      simp only [List.length_cons, List.length_append, List.length_nil] at h1
      unfold maxLen
      omega
    have ck : ∀ w, Calls Tryd.prog 9 #[.string x] w fun e w' => e = .returned (.bool true) ∧ Below w.heap.size w w' := by rw [← hkx]; exact fun w => (implKey x w hxs).mono fun e w' h => ⟨h.1, h.2 ▸ Below.refl _ _⟩
    have HL : Hid (Op.bytesLess x.toList y.toList = (Op.bytesLess s.toList t.toList || (decide (s = t) && decide (c < d)))) := by
      show Op.bytesLess x.toList y.toList = _
      rw [ByteArray.toList_eq, ByteArray.toList_eq, ByteArray.toList_eq, ByteArray.toList_eq, hxl, hyl]
      exact bal_less hs ht hcl hcm hdl hdm
    have HE : Hid (x.toList = y.toList ↔ (s = t ∧ c = d)) := by
      show x.toList = y.toList ↔ _
      rw [ByteArray.toList_eq, ByteArray.toList_eq, hxl, hyl]
      exact bal_eq hcl hcm hdl hdm
    clear hkx hxs
    by_cases hst : s = t
    · subst hst
      have hss := bytes_self s.toList
      by_cases hlt : c < d
      · have h1 : Op.bytesLess x.toList y.toList = true := by rw [HL.out]; simp [hlt]
        have h2 : ¬ x.toList = y.toList := fun h => by have := (HE.out.1 h).2; omega
        have h3 : (x.toList == y.toList) = false := by simpa using h2
        clear hx hy hxl hyl
        go_wp2_with fail
        refine (cxI _).mono ?_
        rintro e z31 ⟨rfl, hz31⟩
        have HGz31 : Hid (Below w.heap.size w z31) := HG2.out.trans (hz31.mono HG2.out.size)
        clear hz31 HG2
        go_wp2_with fail
        refine (cyI _).mono ?_
        rintro e z32 ⟨rfl, hz32⟩
        have HGz32 : Hid (Below w.heap.size w z32) := HGz31.out.trans (hz32.mono HGz31.out.size)
        clear hz32 HGz31
        go_wp2_with fail
        refine (cxS _).mono ?_
        rintro e z33 ⟨rfl, hz33⟩
        have HGz33 : Hid (Below w.heap.size w z33) := HGz32.out.trans (hz33.mono HGz32.out.size)
        clear hz33 HGz32
        go_wp2_with fail
        refine (cyS _).mono ?_
        rintro e z34 ⟨rfl, hz34⟩
        have HGz34 : Hid (Below w.heap.size w z34) := HGz33.out.trans (hz34.mono HGz33.out.size)
        clear hz34 HGz33
        go_wp2_with fail
        refine (ck _).mono ?_
        rintro e z35 ⟨rfl, hz35⟩
        have HGz35 : Hid (Below w.heap.size w z35) := HGz34.out.trans (hz35.mono HGz34.out.size)
        clear hz35 HGz34
        go_wp2
        go_ret
        first
          | exact ⟨rfl, HGz35.out⟩
          | exact ⟨ret_true (by simp; omega), HGz35.out⟩
          | exact ⟨ret_true (by simpa using hx0), HGz35.out⟩
      by_cases hcd : c = d
      · subst hcd
        have hxy := hx.trans hy.symm
        subst hxy
        have h1 := bytes_self x.toList
        clear hx hy hxl hyl
        go_wp2_with fail
        refine (cxI _).mono ?_
        rintro e z36 ⟨rfl, hz36⟩
        have HGz36 : Hid (Below w.heap.size w z36) := HG2.out.trans (hz36.mono HG2.out.size)
        clear hz36 HG2
        go_wp2_with fail
        refine (cyI _).mono ?_
        rintro e z37 ⟨rfl, hz37⟩
        have HGz37 : Hid (Below w.heap.size w z37) := HGz36.out.trans (hz37.mono HGz36.out.size)
        clear hz37 HGz36
        go_wp2_with fail
        refine (cxS _).mono ?_
        rintro e z38 ⟨rfl, hz38⟩
        have HGz38 : Hid (Below w.heap.size w z38) := HGz37.out.trans (hz38.mono HGz37.out.size)
        clear hz38 HGz37
        go_wp2_with fail
        refine (cyS _).mono ?_
        rintro e z39 ⟨rfl, hz39⟩
        have HGz39 : Hid (Below w.heap.size w z39) := HGz38.out.trans (hz39.mono HGz38.out.size)
        clear hz39 HGz38
        go_wp2_with fail
        refine (ck _).mono ?_
        rintro e z40 ⟨rfl, hz40⟩
        have HGz40 : Hid (Below w.heap.size w z40) := HGz39.out.trans (hz40.mono HGz39.out.size)
        clear hz40 HGz39
        go_wp2
        go_ret
        first
          | exact ⟨rfl, HGz40.out⟩
          | exact ⟨ret_true (by simp; omega), HGz40.out⟩
          | exact ⟨ret_true (by simpa using hx0), HGz40.out⟩
      · have h1 : Op.bytesLess x.toList y.toList = false := by rw [HL.out, hss]; simp [hlt]
        have h2 : ¬ x.toList = y.toList := fun h => hcd (HE.out.1 h).2
        have h3 : (x.toList == y.toList) = false := by simpa using h2
        have h4 : (c == d) = false := by simpa using hcd
        clear hx hy hxl hyl
        go_wp2_with fail
        refine (cxI _).mono ?_
        rintro e z41 ⟨rfl, hz41⟩
        have HGz41 : Hid (Below w.heap.size w z41) := HG2.out.trans (hz41.mono HG2.out.size)
        clear hz41 HG2
        go_wp2_with fail
        refine (cyI _).mono ?_
        rintro e z42 ⟨rfl, hz42⟩
        have HGz42 : Hid (Below w.heap.size w z42) := HGz41.out.trans (hz42.mono HGz41.out.size)
        clear hz42 HGz41
        go_wp2_with fail
        refine (cxS _).mono ?_
        rintro e z43 ⟨rfl, hz43⟩
        have HGz43 : Hid (Below w.heap.size w z43) := HGz42.out.trans (hz43.mono HGz42.out.size)
        clear hz43 HGz42
        go_wp2_with fail
        refine (cyS _).mono ?_
        rintro e z44 ⟨rfl, hz44⟩
        have HGz44 : Hid (Below w.heap.size w z44) := HGz43.out.trans (hz44.mono HGz43.out.size)
        clear hz44 HGz43
        go_wp2_with fail
        refine (ck _).mono ?_
        rintro e z45 ⟨rfl, hz45⟩
        have HGz45 : Hid (Below w.heap.size w z45) := HGz44.out.trans (hz45.mono HGz44.out.size)
        clear hz45 HGz44
        go_wp2
        go_ret
        first
          | exact ⟨rfl, HGz45.out⟩
          | exact ⟨ret_true (by simp; omega), HGz45.out⟩
          | exact ⟨ret_true (by simpa using hx0), HGz45.out⟩
    · have hne : ¬ s.toList = t.toList := by rw [ByteArray.toList_eq, ByteArray.toList_eq]; exact fun h => hst (ByteArray.ext (Array.toList_inj.1 h))
      have hne' : (s.toList == t.toList) = false := by simpa using hne
      have h2 : ¬ x.toList = y.toList := fun h => hst (HE.out.1 h).1
      have h3 : (x.toList == y.toList) = false := by simpa using h2
      cases hl : Op.bytesLess s.toList t.toList with
      | true =>
        have h1 : Op.bytesLess x.toList y.toList = true := by rw [HL.out, hl]; rfl
        clear hx hy hxl hyl
        go_wp2_with fail
        refine (cxI _).mono ?_
        rintro e z46 ⟨rfl, hz46⟩
        have HGz46 : Hid (Below w.heap.size w z46) := HG2.out.trans (hz46.mono HG2.out.size)
        clear hz46 HG2
        go_wp2_with fail
        refine (cyI _).mono ?_
        rintro e z47 ⟨rfl, hz47⟩
        have HGz47 : Hid (Below w.heap.size w z47) := HGz46.out.trans (hz47.mono HGz46.out.size)
        clear hz47 HGz46
        go_wp2_with fail
        refine (cxS _).mono ?_
        rintro e z48 ⟨rfl, hz48⟩
        have HGz48 : Hid (Below w.heap.size w z48) := HGz47.out.trans (hz48.mono HGz47.out.size)
        clear hz48 HGz47
        go_wp2_with fail
        refine (cyS _).mono ?_
        rintro e z49 ⟨rfl, hz49⟩
        have HGz49 : Hid (Below w.heap.size w z49) := HGz48.out.trans (hz49.mono HGz48.out.size)
        clear hz49 HGz48
        go_wp2_with fail
        refine (ck _).mono ?_
        rintro e z50 ⟨rfl, hz50⟩
        have HGz50 : Hid (Below w.heap.size w z50) := HGz49.out.trans (hz50.mono HGz49.out.size)
        clear hz50 HGz49
        go_wp2
        go_ret
        first
          | exact ⟨rfl, HGz50.out⟩
          | exact ⟨ret_true (by simp; omega), HGz50.out⟩
          | exact ⟨ret_true (by simpa using hx0), HGz50.out⟩
      | false =>
        have h1 : Op.bytesLess x.toList y.toList = false := by rw [HL.out, hl]; simp [hst]
        clear hx hy hxl hyl
        go_wp2_with fail
        refine (cxI _).mono ?_
        rintro e z51 ⟨rfl, hz51⟩
        have HGz51 : Hid (Below w.heap.size w z51) := HG2.out.trans (hz51.mono HG2.out.size)
        clear hz51 HG2
        go_wp2_with fail
        refine (cyI _).mono ?_
        rintro e z52 ⟨rfl, hz52⟩
        have HGz52 : Hid (Below w.heap.size w z52) := HGz51.out.trans (hz52.mono HGz51.out.size)
        clear hz52 HGz51
        go_wp2_with fail
        refine (cxS _).mono ?_
        rintro e z53 ⟨rfl, hz53⟩
        have HGz53 : Hid (Below w.heap.size w z53) := HGz52.out.trans (hz53.mono HGz52.out.size)
        clear hz53 HGz52
        go_wp2_with fail
        refine (cyS _).mono ?_
        rintro e z54 ⟨rfl, hz54⟩
        have HGz54 : Hid (Below w.heap.size w z54) := HGz53.out.trans (hz54.mono HGz53.out.size)
        clear hz54 HGz53
        go_wp2_with fail
        refine (ck _).mono ?_
        rintro e z55 ⟨rfl, hz55⟩
        have HGz55 : Hid (Below w.heap.size w z55) := HGz54.out.trans (hz55.mono HGz54.out.size)
        clear hz55 HGz54
        go_wp2
        go_ret
        first
          | exact ⟨rfl, HGz55.out⟩
          | exact ⟨ret_true (by simp; omega), HGz55.out⟩
          | exact ⟨ret_true (by simpa using hx0), HGz55.out⟩

end Go.Proofs.YtinefencifbjnaaDoor
