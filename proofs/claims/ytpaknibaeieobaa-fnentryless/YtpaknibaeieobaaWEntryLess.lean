/-
  The walk of the law FnEntryLess: it answers true at all bytes.
-/
import Derived.Test.YtpaknibaeieobaaLess
import Derived.Test.YtpaknibaeieobaaLessQ
import Derived.Test.YtpaknibaeieobaaDrawLess
import Derived.Test.YtpaknibaeieobaaBytes
namespace Go.Proofs.Ytpaknibaeieobaa
open Go.RowKit

theorem two_less (w : World) (v0 v1 v2 v3 v4 u0 u1 u2 u3 u4 : Value) (T : TypeId) : Box5 ((w.alloc (.cells #[v0, v1, v2, v3, v4] T)).alloc (.cells #[u0, u1, u2, u3, u4] T)) (w.heap.size + 1) u0 u1 u2 u3 u4 := by
  have := Box5.new (w.alloc (.cells #[v0, v1, v2, v3, v4] T)) T u0 u1 u2 u3 u4
  simpa using this

set_option maxRecDepth 100000 in
set_option maxHeartbeats 8000000 in
theorem walkFnEntryLess (a : Option Addr) (len cap : Nat) (a' : Option Addr) (len' cap' : Nat) (w : World) (hb : BytesAt w a len cap) (hb' : BytesAt w a' len' cap') :
    Calls Try.prog 14 #[.slice a len cap, .slice a' len' cap'] w fun e w' => e = .returned (.bool true) ∧ Below w.heap.size w w' := by
  have HB : Hid (BytesAt w a len cap) := hb
  have HB' : Hid (BytesAt w a' len' cap') := hb'
  have hc1 := hb.1
  have hc2 := hb.2.1
  have hc3 := hb'.1
  have hc4 := hb'.2.1
  unfold maxLen at hc2 hc4
  clear hb hb'
  by_cases hbig : 1048576 < len
  · go_enter Try.func14, Try.ntmps14
    go_wp2
    go_ret
    exact ⟨rfl, Below.refl _ _⟩
  by_cases hbig2 : 1048576 < len'
  · go_enter Try.func14, Try.ntmps14
    go_wp2
    go_ret
    exact ⟨rfl, Below.refl _ _⟩
  go_enter Try.func14, Try.ntmps14
  go_wp2_with fail
  refine (drawLess_any a len cap _ HB.out).mono ?_
  rintro e w1 ⟨ka, ta, qa, da, na, kb, tb, qb, db, nb, rfl, _, _, hb1⟩
  go_upto_region 4 with fail
  obtain ⟨EA, hEA⟩ : ∃ E, E = w1.heap.size := ⟨_, rfl⟩
  obtain ⟨W1, hW1⟩ : ∃ W, W = (w1.alloc (.cells #[.string ka, .int .i64 qa, .int .i64 da, .string ta, .int .i64 na] 27)).alloc (.cells #[.string kb, .int .i64 qb, .int .i64 db, .string tb, .int .i64 nb] 27) := ⟨_, rfl⟩
  have k1 : Below w1.heap.size w1 W1 := by rw [hW1]; exact ((Below.refl _ _).alloc (Nat.le_refl _) _).alloc (by simp) _
  have BA1 : Box5 W1 EA (.string ka) (.int .i64 qa) (.int .i64 da) (.string ta) (.int .i64 na) := by rw [hW1, hEA]; exact (Box5.new _ _ _ _ _ _ _).alloc _
  have BB1 : Box5 W1 (EA + 1) (.string kb) (.int .i64 qb) (.int .i64 db) (.string tb) (.int .i64 nb) := by rw [hW1, hEA]; exact two_less _ _ _ _ _ _ _ _ _ _ _ _
  have HG1 : Hid (Below w.heap.size w W1) := hb1.trans (k1.mono hb1.size)
  rw [← hW1, ← hEA]
  clear hW1 hEA k1 hb1
  obtain ⟨EB, hEB⟩ : ∃ E, E = EA + 1 := ⟨_, rfl⟩
  rw [← hEB] at BB1 ⊢
  clear hEB
  go_wp2_with fail
  refine (drawLess_any a' len' cap' _ (HB'.out.keep HG1.out)).mono ?_
  rintro e w2 ⟨kc, tc, qc, dc, nc, kd, td, qd, dd, nd, rfl, _, _, hb2⟩
  go_upto_region 5 with fail
  obtain ⟨EC, hEC⟩ : ∃ E, E = w2.heap.size := ⟨_, rfl⟩
  obtain ⟨W2, hW2⟩ : ∃ W, W = (w2.alloc (.cells #[.string kc, .int .i64 qc, .int .i64 dc, .string tc, .int .i64 nc] 27)).alloc (.cells #[.string kd, .int .i64 qd, .int .i64 dd, .string td, .int .i64 nd] 27) := ⟨_, rfl⟩
  have k2 : Below w2.heap.size w2 W2 := by rw [hW2]; exact ((Below.refl _ _).alloc (Nat.le_refl _) _).alloc (by simp) _
  have BC2 : Box5 W2 EC (.string kc) (.int .i64 qc) (.int .i64 dc) (.string tc) (.int .i64 nc) := by rw [hW2, hEC]; exact (Box5.new _ _ _ _ _ _ _).alloc _
  have BA2 := (BA1.below hb2).below k2
  have BB2 := (BB1.below hb2).below k2
  have HG2 : Hid (Below w.heap.size w W2) := (HG1.out.trans (hb2.mono HG1.out.size)).trans (k2.mono (HG1.out.trans (hb2.mono HG1.out.size)).size)
  rw [← hW2, ← hEC]
  clear hW2 hEC k2 hb2 BA1 BB1 HG1
  obtain ⟨x, hx⟩ : ∃ x, x = lessB ka qa kb qb := ⟨_, rfl⟩
  obtain ⟨y, hy⟩ : ∃ y, y = lessB kb qb ka qa := ⟨_, rfl⟩
  obtain ⟨u, hu⟩ : ∃ u, u = lessB kb qb kc qc := ⟨_, rfl⟩
  obtain ⟨v, hv⟩ : ∃ v, v = lessB ka qa kc qc := ⟨_, rfl⟩
  have cxI : ∀ w, Calls Try.prog 22 #[.agg #[.string ka, .int .i64 qa, .int .i64 da, .string ta, .int .i64 na], .agg #[.string kb, .int .i64 qb, .int .i64 db, .string tb, .int .i64 nb]] w fun e w' => e = .returned (.bool x) ∧ Below w.heap.size w w' := by rw [hx]; exact fun w => implLess ka ta kb tb qa da na qb db nb w
  have cyI : ∀ w, Calls Try.prog 22 #[.agg #[.string kb, .int .i64 qb, .int .i64 db, .string tb, .int .i64 nb], .agg #[.string ka, .int .i64 qa, .int .i64 da, .string ta, .int .i64 na]] w fun e w' => e = .returned (.bool y) ∧ Below w.heap.size w w' := by rw [hy]; exact fun w => implLess kb tb ka ta qb db nb qa da na w
  have cxS : ∀ w, Calls Try.prog 21 #[.agg #[.string ka, .int .i64 qa, .int .i64 da, .string ta, .int .i64 na], .agg #[.string kb, .int .i64 qb, .int .i64 db, .string tb, .int .i64 nb]] w fun e w' => e = .returned (.bool x) ∧ Below w.heap.size w w' := by rw [hx]; exact fun w => specLess ka ta kb tb qa da na qb db nb w
  have cyS : ∀ w, Calls Try.prog 21 #[.agg #[.string kb, .int .i64 qb, .int .i64 db, .string tb, .int .i64 nb], .agg #[.string ka, .int .i64 qa, .int .i64 da, .string ta, .int .i64 na]] w fun e w' => e = .returned (.bool y) ∧ Below w.heap.size w w' := by rw [hy]; exact fun w => specLess kb tb ka ta qb db nb qa da na w
  have cu : ∀ w, Calls Try.prog 22 #[.agg #[.string kb, .int .i64 qb, .int .i64 db, .string tb, .int .i64 nb], .agg #[.string kc, .int .i64 qc, .int .i64 dc, .string tc, .int .i64 nc]] w fun e w' => e = .returned (.bool u) ∧ Below w.heap.size w w' := by rw [hu]; exact fun w => implLess kb tb kc tc qb db nb qc dc nc w
  have cv : ∀ w, Calls Try.prog 22 #[.agg #[.string ka, .int .i64 qa, .int .i64 da, .string ta, .int .i64 na], .agg #[.string kc, .int .i64 qc, .int .i64 dc, .string tc, .int .i64 nc]] w fun e w' => e = .returned (.bool v) ∧ Below w.heap.size w w' := by rw [hv]; exact fun w => implLess ka ta kc tc qa da na qc dc nc w
  have cs : ∀ w, Calls Try.prog 22 #[.agg #[.string ka, .int .i64 qa, .int .i64 da, .string ta, .int .i64 na], .agg #[.string ka, .int .i64 qa, .int .i64 da, .string ta, .int .i64 na]] w fun e w' => e = .returned (.bool false) ∧ Below w.heap.size w w' := by rw [← lessB_self ka qa]; exact fun w => implLess ka ta ka ta qa da na qa da na w
  have HXY : Hid (x = true → y = false) := fun h => by rw [hy]; exact lessB_asymm (hx.symm.trans h)
  have HXUV : Hid (x = true → u = true → v = true) := fun h h' => by rw [hv]; exact lessB_trans (hx.symm.trans h) (hu.symm.trans h')
  have HONE : Hid ((x || y) = (decide (¬ ka = kb) || decide (¬ qa = qb))) := by show (x || y) = _; rw [hx, hy]; exact lessB_one ka kb qa qb
  clear hx hy hu hv
  cases x with
  | true =>
    have hy0 := HXY.out rfl
    subst hy0
    cases u with
    | true =>
      have hv1 := HXUV.out rfl rfl
      subst hv1
      by_cases he : ka = kb
      · subst he
        have hq : ¬ qa = qb := by intro e; have := HONE.out; rw [e] at this; simp at this
        have hq' : (qa != qb) = true := by simpa using hq
        have a0 := BA2.c0
        have a1 := BA2.c1
        have a2 := BA2.c2
        have a3 := BA2.c3
        have a4 := BA2.c4
        have la := BA2.lt
        have b0 := BB2.c0
        have b1 := BB2.c1
        have b2 := BB2.c2
        have b3 := BB2.c3
        have b4 := BB2.c4
        have lb := BB2.lt
        have c0 := BC2.c0
        have c1 := BC2.c1
        have c2 := BC2.c2
        have c3 := BC2.c3
        have c4 := BC2.c4
        have lc := BC2.lt
        go_wp2_with fail
        refine (cxI _).mono ?_
        rintro e z1 ⟨rfl, hz1⟩
        have BA101 := BA2.below hz1
        have BB101 := BB2.below hz1
        have BC101 := BC2.below hz1
        have HGz1 : Hid (Below w.heap.size w z1) := HG2.out.trans (hz1.mono HG2.out.size)
        clear hz1 HG2 BA2 BB2 BC2 a0 a1 a2 a3 a4 la b0 b1 b2 b3 b4 lb c0 c1 c2 c3 c4 lc
        have a0 := BA101.c0
        have a1 := BA101.c1
        have a2 := BA101.c2
        have a3 := BA101.c3
        have a4 := BA101.c4
        have la := BA101.lt
        have b0 := BB101.c0
        have b1 := BB101.c1
        have b2 := BB101.c2
        have b3 := BB101.c3
        have b4 := BB101.c4
        have lb := BB101.lt
        have c0 := BC101.c0
        have c1 := BC101.c1
        have c2 := BC101.c2
        have c3 := BC101.c3
        have c4 := BC101.c4
        have lc := BC101.lt
        go_wp2_with fail
        refine (cyI _).mono ?_
        rintro e z2 ⟨rfl, hz2⟩
        have BA102 := BA101.below hz2
        have BB102 := BB101.below hz2
        have BC102 := BC101.below hz2
        have HGz2 : Hid (Below w.heap.size w z2) := HGz1.out.trans (hz2.mono HGz1.out.size)
        clear hz2 HGz1 BA101 BB101 BC101 a0 a1 a2 a3 a4 la b0 b1 b2 b3 b4 lb c0 c1 c2 c3 c4 lc
        have a0 := BA102.c0
        have a1 := BA102.c1
        have a2 := BA102.c2
        have a3 := BA102.c3
        have a4 := BA102.c4
        have la := BA102.lt
        have b0 := BB102.c0
        have b1 := BB102.c1
        have b2 := BB102.c2
        have b3 := BB102.c3
        have b4 := BB102.c4
        have lb := BB102.lt
        have c0 := BC102.c0
        have c1 := BC102.c1
        have c2 := BC102.c2
        have c3 := BC102.c3
        have c4 := BC102.c4
        have lc := BC102.lt
        go_wp2_with fail
        refine (cxS _).mono ?_
        rintro e z3 ⟨rfl, hz3⟩
        have BA103 := BA102.below hz3
        have BB103 := BB102.below hz3
        have BC103 := BC102.below hz3
        have HGz3 : Hid (Below w.heap.size w z3) := HGz2.out.trans (hz3.mono HGz2.out.size)
        clear hz3 HGz2 BA102 BB102 BC102 a0 a1 a2 a3 a4 la b0 b1 b2 b3 b4 lb c0 c1 c2 c3 c4 lc
        have a0 := BA103.c0
        have a1 := BA103.c1
        have a2 := BA103.c2
        have a3 := BA103.c3
        have a4 := BA103.c4
        have la := BA103.lt
        have b0 := BB103.c0
        have b1 := BB103.c1
        have b2 := BB103.c2
        have b3 := BB103.c3
        have b4 := BB103.c4
        have lb := BB103.lt
        have c0 := BC103.c0
        have c1 := BC103.c1
        have c2 := BC103.c2
        have c3 := BC103.c3
        have c4 := BC103.c4
        have lc := BC103.lt
        go_wp2_with fail
        refine (cyS _).mono ?_
        rintro e z4 ⟨rfl, hz4⟩
        have BA104 := BA103.below hz4
        have BB104 := BB103.below hz4
        have BC104 := BC103.below hz4
        have HGz4 : Hid (Below w.heap.size w z4) := HGz3.out.trans (hz4.mono HGz3.out.size)
        clear hz4 HGz3 BA103 BB103 BC103 a0 a1 a2 a3 a4 la b0 b1 b2 b3 b4 lb c0 c1 c2 c3 c4 lc
        have a0 := BA104.c0
        have a1 := BA104.c1
        have a2 := BA104.c2
        have a3 := BA104.c3
        have a4 := BA104.c4
        have la := BA104.lt
        have b0 := BB104.c0
        have b1 := BB104.c1
        have b2 := BB104.c2
        have b3 := BB104.c3
        have b4 := BB104.c4
        have lb := BB104.lt
        have c0 := BC104.c0
        have c1 := BC104.c1
        have c2 := BC104.c2
        have c3 := BC104.c3
        have c4 := BC104.c4
        have lc := BC104.lt
        go_wp2_with fail
        refine (cu _).mono ?_
        rintro e z5 ⟨rfl, hz5⟩
        have BA105 := BA104.below hz5
        have BB105 := BB104.below hz5
        have BC105 := BC104.below hz5
        have HGz5 : Hid (Below w.heap.size w z5) := HGz4.out.trans (hz5.mono HGz4.out.size)
        clear hz5 HGz4 BA104 BB104 BC104 a0 a1 a2 a3 a4 la b0 b1 b2 b3 b4 lb c0 c1 c2 c3 c4 lc
        have a0 := BA105.c0
        have a1 := BA105.c1
        have a2 := BA105.c2
        have a3 := BA105.c3
        have a4 := BA105.c4
        have la := BA105.lt
        have b0 := BB105.c0
        have b1 := BB105.c1
        have b2 := BB105.c2
        have b3 := BB105.c3
        have b4 := BB105.c4
        have lb := BB105.lt
        have c0 := BC105.c0
        have c1 := BC105.c1
        have c2 := BC105.c2
        have c3 := BC105.c3
        have c4 := BC105.c4
        have lc := BC105.lt
        go_wp2_with fail
        refine (cv _).mono ?_
        rintro e z6 ⟨rfl, hz6⟩
        have BA106 := BA105.below hz6
        have BB106 := BB105.below hz6
        have BC106 := BC105.below hz6
        have HGz6 : Hid (Below w.heap.size w z6) := HGz5.out.trans (hz6.mono HGz5.out.size)
        clear hz6 HGz5 BA105 BB105 BC105 a0 a1 a2 a3 a4 la b0 b1 b2 b3 b4 lb c0 c1 c2 c3 c4 lc
        have a0 := BA106.c0
        have a1 := BA106.c1
        have a2 := BA106.c2
        have a3 := BA106.c3
        have a4 := BA106.c4
        have la := BA106.lt
        have b0 := BB106.c0
        have b1 := BB106.c1
        have b2 := BB106.c2
        have b3 := BB106.c3
        have b4 := BB106.c4
        have lb := BB106.lt
        have c0 := BC106.c0
        have c1 := BC106.c1
        have c2 := BC106.c2
        have c3 := BC106.c3
        have c4 := BC106.c4
        have lc := BC106.lt
        go_wp2_with fail
        refine (cs _).mono ?_
        rintro e z7 ⟨rfl, hz7⟩
        have BA107 := BA106.below hz7
        have BB107 := BB106.below hz7
        have BC107 := BC106.below hz7
        have HGz7 : Hid (Below w.heap.size w z7) := HGz6.out.trans (hz7.mono HGz6.out.size)
        clear hz7 HGz6 BA106 BB106 BC106 a0 a1 a2 a3 a4 la b0 b1 b2 b3 b4 lb c0 c1 c2 c3 c4 lc
        have a0 := BA107.c0
        have a1 := BA107.c1
        have a2 := BA107.c2
        have a3 := BA107.c3
        have a4 := BA107.c4
        have la := BA107.lt
        have b0 := BB107.c0
        have b1 := BB107.c1
        have b2 := BB107.c2
        have b3 := BB107.c3
        have b4 := BB107.c4
        have lb := BB107.lt
        go_wp2
        go_ret
        exact ⟨rfl, HGz7.out⟩
      · have hne : ¬ ka.toList = kb.toList := by rw [ByteArray.toList_eq, ByteArray.toList_eq]; exact fun h => he (ByteArray.ext (Array.toList_inj.1 h))
        have a0 := BA2.c0
        have a1 := BA2.c1
        have a2 := BA2.c2
        have a3 := BA2.c3
        have a4 := BA2.c4
        have la := BA2.lt
        have b0 := BB2.c0
        have b1 := BB2.c1
        have b2 := BB2.c2
        have b3 := BB2.c3
        have b4 := BB2.c4
        have lb := BB2.lt
        have c0 := BC2.c0
        have c1 := BC2.c1
        have c2 := BC2.c2
        have c3 := BC2.c3
        have c4 := BC2.c4
        have lc := BC2.lt
        go_wp2_with fail
        refine (cxI _).mono ?_
        rintro e z8 ⟨rfl, hz8⟩
        have BA108 := BA2.below hz8
        have BB108 := BB2.below hz8
        have BC108 := BC2.below hz8
        have HGz8 : Hid (Below w.heap.size w z8) := HG2.out.trans (hz8.mono HG2.out.size)
        clear hz8 HG2 BA2 BB2 BC2 a0 a1 a2 a3 a4 la b0 b1 b2 b3 b4 lb c0 c1 c2 c3 c4 lc
        have a0 := BA108.c0
        have a1 := BA108.c1
        have a2 := BA108.c2
        have a3 := BA108.c3
        have a4 := BA108.c4
        have la := BA108.lt
        have b0 := BB108.c0
        have b1 := BB108.c1
        have b2 := BB108.c2
        have b3 := BB108.c3
        have b4 := BB108.c4
        have lb := BB108.lt
        have c0 := BC108.c0
        have c1 := BC108.c1
        have c2 := BC108.c2
        have c3 := BC108.c3
        have c4 := BC108.c4
        have lc := BC108.lt
        go_wp2_with fail
        refine (cyI _).mono ?_
        rintro e z9 ⟨rfl, hz9⟩
        have BA109 := BA108.below hz9
        have BB109 := BB108.below hz9
        have BC109 := BC108.below hz9
        have HGz9 : Hid (Below w.heap.size w z9) := HGz8.out.trans (hz9.mono HGz8.out.size)
        clear hz9 HGz8 BA108 BB108 BC108 a0 a1 a2 a3 a4 la b0 b1 b2 b3 b4 lb c0 c1 c2 c3 c4 lc
        have a0 := BA109.c0
        have a1 := BA109.c1
        have a2 := BA109.c2
        have a3 := BA109.c3
        have a4 := BA109.c4
        have la := BA109.lt
        have b0 := BB109.c0
        have b1 := BB109.c1
        have b2 := BB109.c2
        have b3 := BB109.c3
        have b4 := BB109.c4
        have lb := BB109.lt
        have c0 := BC109.c0
        have c1 := BC109.c1
        have c2 := BC109.c2
        have c3 := BC109.c3
        have c4 := BC109.c4
        have lc := BC109.lt
        go_wp2_with fail
        refine (cxS _).mono ?_
        rintro e z10 ⟨rfl, hz10⟩
        have BA110 := BA109.below hz10
        have BB110 := BB109.below hz10
        have BC110 := BC109.below hz10
        have HGz10 : Hid (Below w.heap.size w z10) := HGz9.out.trans (hz10.mono HGz9.out.size)
        clear hz10 HGz9 BA109 BB109 BC109 a0 a1 a2 a3 a4 la b0 b1 b2 b3 b4 lb c0 c1 c2 c3 c4 lc
        have a0 := BA110.c0
        have a1 := BA110.c1
        have a2 := BA110.c2
        have a3 := BA110.c3
        have a4 := BA110.c4
        have la := BA110.lt
        have b0 := BB110.c0
        have b1 := BB110.c1
        have b2 := BB110.c2
        have b3 := BB110.c3
        have b4 := BB110.c4
        have lb := BB110.lt
        have c0 := BC110.c0
        have c1 := BC110.c1
        have c2 := BC110.c2
        have c3 := BC110.c3
        have c4 := BC110.c4
        have lc := BC110.lt
        go_wp2_with fail
        refine (cyS _).mono ?_
        rintro e z11 ⟨rfl, hz11⟩
        have BA111 := BA110.below hz11
        have BB111 := BB110.below hz11
        have BC111 := BC110.below hz11
        have HGz11 : Hid (Below w.heap.size w z11) := HGz10.out.trans (hz11.mono HGz10.out.size)
        clear hz11 HGz10 BA110 BB110 BC110 a0 a1 a2 a3 a4 la b0 b1 b2 b3 b4 lb c0 c1 c2 c3 c4 lc
        have a0 := BA111.c0
        have a1 := BA111.c1
        have a2 := BA111.c2
        have a3 := BA111.c3
        have a4 := BA111.c4
        have la := BA111.lt
        have b0 := BB111.c0
        have b1 := BB111.c1
        have b2 := BB111.c2
        have b3 := BB111.c3
        have b4 := BB111.c4
        have lb := BB111.lt
        have c0 := BC111.c0
        have c1 := BC111.c1
        have c2 := BC111.c2
        have c3 := BC111.c3
        have c4 := BC111.c4
        have lc := BC111.lt
        go_wp2_with fail
        refine (cu _).mono ?_
        rintro e z12 ⟨rfl, hz12⟩
        have BA112 := BA111.below hz12
        have BB112 := BB111.below hz12
        have BC112 := BC111.below hz12
        have HGz12 : Hid (Below w.heap.size w z12) := HGz11.out.trans (hz12.mono HGz11.out.size)
        clear hz12 HGz11 BA111 BB111 BC111 a0 a1 a2 a3 a4 la b0 b1 b2 b3 b4 lb c0 c1 c2 c3 c4 lc
        have a0 := BA112.c0
        have a1 := BA112.c1
        have a2 := BA112.c2
        have a3 := BA112.c3
        have a4 := BA112.c4
        have la := BA112.lt
        have b0 := BB112.c0
        have b1 := BB112.c1
        have b2 := BB112.c2
        have b3 := BB112.c3
        have b4 := BB112.c4
        have lb := BB112.lt
        have c0 := BC112.c0
        have c1 := BC112.c1
        have c2 := BC112.c2
        have c3 := BC112.c3
        have c4 := BC112.c4
        have lc := BC112.lt
        go_wp2_with fail
        refine (cv _).mono ?_
        rintro e z13 ⟨rfl, hz13⟩
        have BA113 := BA112.below hz13
        have BB113 := BB112.below hz13
        have BC113 := BC112.below hz13
        have HGz13 : Hid (Below w.heap.size w z13) := HGz12.out.trans (hz13.mono HGz12.out.size)
        clear hz13 HGz12 BA112 BB112 BC112 a0 a1 a2 a3 a4 la b0 b1 b2 b3 b4 lb c0 c1 c2 c3 c4 lc
        have a0 := BA113.c0
        have a1 := BA113.c1
        have a2 := BA113.c2
        have a3 := BA113.c3
        have a4 := BA113.c4
        have la := BA113.lt
        have b0 := BB113.c0
        have b1 := BB113.c1
        have b2 := BB113.c2
        have b3 := BB113.c3
        have b4 := BB113.c4
        have lb := BB113.lt
        have c0 := BC113.c0
        have c1 := BC113.c1
        have c2 := BC113.c2
        have c3 := BC113.c3
        have c4 := BC113.c4
        have lc := BC113.lt
        go_wp2_with fail
        refine (cs _).mono ?_
        rintro e z14 ⟨rfl, hz14⟩
        have BA114 := BA113.below hz14
        have BB114 := BB113.below hz14
        have BC114 := BC113.below hz14
        have HGz14 : Hid (Below w.heap.size w z14) := HGz13.out.trans (hz14.mono HGz13.out.size)
        clear hz14 HGz13 BA113 BB113 BC113 a0 a1 a2 a3 a4 la b0 b1 b2 b3 b4 lb c0 c1 c2 c3 c4 lc
        have a0 := BA114.c0
        have a1 := BA114.c1
        have a2 := BA114.c2
        have a3 := BA114.c3
        have a4 := BA114.c4
        have la := BA114.lt
        have b0 := BB114.c0
        have b1 := BB114.c1
        have b2 := BB114.c2
        have b3 := BB114.c3
        have b4 := BB114.c4
        have lb := BB114.lt
        go_wp2
        go_ret
        exact ⟨rfl, HGz14.out⟩
    | false =>
      by_cases he : ka = kb
      · subst he
        have hq : ¬ qa = qb := by intro e; have := HONE.out; rw [e] at this; simp at this
        have hq' : (qa != qb) = true := by simpa using hq
        have a0 := BA2.c0
        have a1 := BA2.c1
        have a2 := BA2.c2
        have a3 := BA2.c3
        have a4 := BA2.c4
        have la := BA2.lt
        have b0 := BB2.c0
        have b1 := BB2.c1
        have b2 := BB2.c2
        have b3 := BB2.c3
        have b4 := BB2.c4
        have lb := BB2.lt
        have c0 := BC2.c0
        have c1 := BC2.c1
        have c2 := BC2.c2
        have c3 := BC2.c3
        have c4 := BC2.c4
        have lc := BC2.lt
        go_wp2_with fail
        refine (cxI _).mono ?_
        rintro e z15 ⟨rfl, hz15⟩
        have BA115 := BA2.below hz15
        have BB115 := BB2.below hz15
        have BC115 := BC2.below hz15
        have HGz15 : Hid (Below w.heap.size w z15) := HG2.out.trans (hz15.mono HG2.out.size)
        clear hz15 HG2 BA2 BB2 BC2 a0 a1 a2 a3 a4 la b0 b1 b2 b3 b4 lb c0 c1 c2 c3 c4 lc
        have a0 := BA115.c0
        have a1 := BA115.c1
        have a2 := BA115.c2
        have a3 := BA115.c3
        have a4 := BA115.c4
        have la := BA115.lt
        have b0 := BB115.c0
        have b1 := BB115.c1
        have b2 := BB115.c2
        have b3 := BB115.c3
        have b4 := BB115.c4
        have lb := BB115.lt
        have c0 := BC115.c0
        have c1 := BC115.c1
        have c2 := BC115.c2
        have c3 := BC115.c3
        have c4 := BC115.c4
        have lc := BC115.lt
        go_wp2_with fail
        refine (cyI _).mono ?_
        rintro e z16 ⟨rfl, hz16⟩
        have BA116 := BA115.below hz16
        have BB116 := BB115.below hz16
        have BC116 := BC115.below hz16
        have HGz16 : Hid (Below w.heap.size w z16) := HGz15.out.trans (hz16.mono HGz15.out.size)
        clear hz16 HGz15 BA115 BB115 BC115 a0 a1 a2 a3 a4 la b0 b1 b2 b3 b4 lb c0 c1 c2 c3 c4 lc
        have a0 := BA116.c0
        have a1 := BA116.c1
        have a2 := BA116.c2
        have a3 := BA116.c3
        have a4 := BA116.c4
        have la := BA116.lt
        have b0 := BB116.c0
        have b1 := BB116.c1
        have b2 := BB116.c2
        have b3 := BB116.c3
        have b4 := BB116.c4
        have lb := BB116.lt
        have c0 := BC116.c0
        have c1 := BC116.c1
        have c2 := BC116.c2
        have c3 := BC116.c3
        have c4 := BC116.c4
        have lc := BC116.lt
        go_wp2_with fail
        refine (cxS _).mono ?_
        rintro e z17 ⟨rfl, hz17⟩
        have BA117 := BA116.below hz17
        have BB117 := BB116.below hz17
        have BC117 := BC116.below hz17
        have HGz17 : Hid (Below w.heap.size w z17) := HGz16.out.trans (hz17.mono HGz16.out.size)
        clear hz17 HGz16 BA116 BB116 BC116 a0 a1 a2 a3 a4 la b0 b1 b2 b3 b4 lb c0 c1 c2 c3 c4 lc
        have a0 := BA117.c0
        have a1 := BA117.c1
        have a2 := BA117.c2
        have a3 := BA117.c3
        have a4 := BA117.c4
        have la := BA117.lt
        have b0 := BB117.c0
        have b1 := BB117.c1
        have b2 := BB117.c2
        have b3 := BB117.c3
        have b4 := BB117.c4
        have lb := BB117.lt
        have c0 := BC117.c0
        have c1 := BC117.c1
        have c2 := BC117.c2
        have c3 := BC117.c3
        have c4 := BC117.c4
        have lc := BC117.lt
        go_wp2_with fail
        refine (cyS _).mono ?_
        rintro e z18 ⟨rfl, hz18⟩
        have BA118 := BA117.below hz18
        have BB118 := BB117.below hz18
        have BC118 := BC117.below hz18
        have HGz18 : Hid (Below w.heap.size w z18) := HGz17.out.trans (hz18.mono HGz17.out.size)
        clear hz18 HGz17 BA117 BB117 BC117 a0 a1 a2 a3 a4 la b0 b1 b2 b3 b4 lb c0 c1 c2 c3 c4 lc
        have a0 := BA118.c0
        have a1 := BA118.c1
        have a2 := BA118.c2
        have a3 := BA118.c3
        have a4 := BA118.c4
        have la := BA118.lt
        have b0 := BB118.c0
        have b1 := BB118.c1
        have b2 := BB118.c2
        have b3 := BB118.c3
        have b4 := BB118.c4
        have lb := BB118.lt
        have c0 := BC118.c0
        have c1 := BC118.c1
        have c2 := BC118.c2
        have c3 := BC118.c3
        have c4 := BC118.c4
        have lc := BC118.lt
        go_wp2_with fail
        refine (cu _).mono ?_
        rintro e z19 ⟨rfl, hz19⟩
        have BA119 := BA118.below hz19
        have BB119 := BB118.below hz19
        have BC119 := BC118.below hz19
        have HGz19 : Hid (Below w.heap.size w z19) := HGz18.out.trans (hz19.mono HGz18.out.size)
        clear hz19 HGz18 BA118 BB118 BC118 a0 a1 a2 a3 a4 la b0 b1 b2 b3 b4 lb c0 c1 c2 c3 c4 lc
        have a0 := BA119.c0
        have a1 := BA119.c1
        have a2 := BA119.c2
        have a3 := BA119.c3
        have a4 := BA119.c4
        have la := BA119.lt
        have b0 := BB119.c0
        have b1 := BB119.c1
        have b2 := BB119.c2
        have b3 := BB119.c3
        have b4 := BB119.c4
        have lb := BB119.lt
        have c0 := BC119.c0
        have c1 := BC119.c1
        have c2 := BC119.c2
        have c3 := BC119.c3
        have c4 := BC119.c4
        have lc := BC119.lt
        go_wp2_with fail
        refine (cs _).mono ?_
        rintro e z20 ⟨rfl, hz20⟩
        have BA120 := BA119.below hz20
        have BB120 := BB119.below hz20
        have BC120 := BC119.below hz20
        have HGz20 : Hid (Below w.heap.size w z20) := HGz19.out.trans (hz20.mono HGz19.out.size)
        clear hz20 HGz19 BA119 BB119 BC119 a0 a1 a2 a3 a4 la b0 b1 b2 b3 b4 lb c0 c1 c2 c3 c4 lc
        have a0 := BA120.c0
        have a1 := BA120.c1
        have a2 := BA120.c2
        have a3 := BA120.c3
        have a4 := BA120.c4
        have la := BA120.lt
        have b0 := BB120.c0
        have b1 := BB120.c1
        have b2 := BB120.c2
        have b3 := BB120.c3
        have b4 := BB120.c4
        have lb := BB120.lt
        go_wp2
        go_ret
        exact ⟨rfl, HGz20.out⟩
      · have hne : ¬ ka.toList = kb.toList := by rw [ByteArray.toList_eq, ByteArray.toList_eq]; exact fun h => he (ByteArray.ext (Array.toList_inj.1 h))
        have a0 := BA2.c0
        have a1 := BA2.c1
        have a2 := BA2.c2
        have a3 := BA2.c3
        have a4 := BA2.c4
        have la := BA2.lt
        have b0 := BB2.c0
        have b1 := BB2.c1
        have b2 := BB2.c2
        have b3 := BB2.c3
        have b4 := BB2.c4
        have lb := BB2.lt
        have c0 := BC2.c0
        have c1 := BC2.c1
        have c2 := BC2.c2
        have c3 := BC2.c3
        have c4 := BC2.c4
        have lc := BC2.lt
        go_wp2_with fail
        refine (cxI _).mono ?_
        rintro e z21 ⟨rfl, hz21⟩
        have BA121 := BA2.below hz21
        have BB121 := BB2.below hz21
        have BC121 := BC2.below hz21
        have HGz21 : Hid (Below w.heap.size w z21) := HG2.out.trans (hz21.mono HG2.out.size)
        clear hz21 HG2 BA2 BB2 BC2 a0 a1 a2 a3 a4 la b0 b1 b2 b3 b4 lb c0 c1 c2 c3 c4 lc
        have a0 := BA121.c0
        have a1 := BA121.c1
        have a2 := BA121.c2
        have a3 := BA121.c3
        have a4 := BA121.c4
        have la := BA121.lt
        have b0 := BB121.c0
        have b1 := BB121.c1
        have b2 := BB121.c2
        have b3 := BB121.c3
        have b4 := BB121.c4
        have lb := BB121.lt
        have c0 := BC121.c0
        have c1 := BC121.c1
        have c2 := BC121.c2
        have c3 := BC121.c3
        have c4 := BC121.c4
        have lc := BC121.lt
        go_wp2_with fail
        refine (cyI _).mono ?_
        rintro e z22 ⟨rfl, hz22⟩
        have BA122 := BA121.below hz22
        have BB122 := BB121.below hz22
        have BC122 := BC121.below hz22
        have HGz22 : Hid (Below w.heap.size w z22) := HGz21.out.trans (hz22.mono HGz21.out.size)
        clear hz22 HGz21 BA121 BB121 BC121 a0 a1 a2 a3 a4 la b0 b1 b2 b3 b4 lb c0 c1 c2 c3 c4 lc
        have a0 := BA122.c0
        have a1 := BA122.c1
        have a2 := BA122.c2
        have a3 := BA122.c3
        have a4 := BA122.c4
        have la := BA122.lt
        have b0 := BB122.c0
        have b1 := BB122.c1
        have b2 := BB122.c2
        have b3 := BB122.c3
        have b4 := BB122.c4
        have lb := BB122.lt
        have c0 := BC122.c0
        have c1 := BC122.c1
        have c2 := BC122.c2
        have c3 := BC122.c3
        have c4 := BC122.c4
        have lc := BC122.lt
        go_wp2_with fail
        refine (cxS _).mono ?_
        rintro e z23 ⟨rfl, hz23⟩
        have BA123 := BA122.below hz23
        have BB123 := BB122.below hz23
        have BC123 := BC122.below hz23
        have HGz23 : Hid (Below w.heap.size w z23) := HGz22.out.trans (hz23.mono HGz22.out.size)
        clear hz23 HGz22 BA122 BB122 BC122 a0 a1 a2 a3 a4 la b0 b1 b2 b3 b4 lb c0 c1 c2 c3 c4 lc
        have a0 := BA123.c0
        have a1 := BA123.c1
        have a2 := BA123.c2
        have a3 := BA123.c3
        have a4 := BA123.c4
        have la := BA123.lt
        have b0 := BB123.c0
        have b1 := BB123.c1
        have b2 := BB123.c2
        have b3 := BB123.c3
        have b4 := BB123.c4
        have lb := BB123.lt
        have c0 := BC123.c0
        have c1 := BC123.c1
        have c2 := BC123.c2
        have c3 := BC123.c3
        have c4 := BC123.c4
        have lc := BC123.lt
        go_wp2_with fail
        refine (cyS _).mono ?_
        rintro e z24 ⟨rfl, hz24⟩
        have BA124 := BA123.below hz24
        have BB124 := BB123.below hz24
        have BC124 := BC123.below hz24
        have HGz24 : Hid (Below w.heap.size w z24) := HGz23.out.trans (hz24.mono HGz23.out.size)
        clear hz24 HGz23 BA123 BB123 BC123 a0 a1 a2 a3 a4 la b0 b1 b2 b3 b4 lb c0 c1 c2 c3 c4 lc
        have a0 := BA124.c0
        have a1 := BA124.c1
        have a2 := BA124.c2
        have a3 := BA124.c3
        have a4 := BA124.c4
        have la := BA124.lt
        have b0 := BB124.c0
        have b1 := BB124.c1
        have b2 := BB124.c2
        have b3 := BB124.c3
        have b4 := BB124.c4
        have lb := BB124.lt
        have c0 := BC124.c0
        have c1 := BC124.c1
        have c2 := BC124.c2
        have c3 := BC124.c3
        have c4 := BC124.c4
        have lc := BC124.lt
        go_wp2_with fail
        refine (cu _).mono ?_
        rintro e z25 ⟨rfl, hz25⟩
        have BA125 := BA124.below hz25
        have BB125 := BB124.below hz25
        have BC125 := BC124.below hz25
        have HGz25 : Hid (Below w.heap.size w z25) := HGz24.out.trans (hz25.mono HGz24.out.size)
        clear hz25 HGz24 BA124 BB124 BC124 a0 a1 a2 a3 a4 la b0 b1 b2 b3 b4 lb c0 c1 c2 c3 c4 lc
        have a0 := BA125.c0
        have a1 := BA125.c1
        have a2 := BA125.c2
        have a3 := BA125.c3
        have a4 := BA125.c4
        have la := BA125.lt
        have b0 := BB125.c0
        have b1 := BB125.c1
        have b2 := BB125.c2
        have b3 := BB125.c3
        have b4 := BB125.c4
        have lb := BB125.lt
        have c0 := BC125.c0
        have c1 := BC125.c1
        have c2 := BC125.c2
        have c3 := BC125.c3
        have c4 := BC125.c4
        have lc := BC125.lt
        go_wp2_with fail
        refine (cs _).mono ?_
        rintro e z26 ⟨rfl, hz26⟩
        have BA126 := BA125.below hz26
        have BB126 := BB125.below hz26
        have BC126 := BC125.below hz26
        have HGz26 : Hid (Below w.heap.size w z26) := HGz25.out.trans (hz26.mono HGz25.out.size)
        clear hz26 HGz25 BA125 BB125 BC125 a0 a1 a2 a3 a4 la b0 b1 b2 b3 b4 lb c0 c1 c2 c3 c4 lc
        have a0 := BA126.c0
        have a1 := BA126.c1
        have a2 := BA126.c2
        have a3 := BA126.c3
        have a4 := BA126.c4
        have la := BA126.lt
        have b0 := BB126.c0
        have b1 := BB126.c1
        have b2 := BB126.c2
        have b3 := BB126.c3
        have b4 := BB126.c4
        have lb := BB126.lt
        go_wp2
        go_ret
        exact ⟨rfl, HGz26.out⟩
  | false =>
    cases y with
    | true =>
      by_cases he : ka = kb
      · subst he
        have hq : ¬ qa = qb := by intro e; have := HONE.out; rw [e] at this; simp at this
        have hq' : (qa != qb) = true := by simpa using hq
        have a0 := BA2.c0
        have a1 := BA2.c1
        have a2 := BA2.c2
        have a3 := BA2.c3
        have a4 := BA2.c4
        have la := BA2.lt
        have b0 := BB2.c0
        have b1 := BB2.c1
        have b2 := BB2.c2
        have b3 := BB2.c3
        have b4 := BB2.c4
        have lb := BB2.lt
        have c0 := BC2.c0
        have c1 := BC2.c1
        have c2 := BC2.c2
        have c3 := BC2.c3
        have c4 := BC2.c4
        have lc := BC2.lt
        go_wp2_with fail
        refine (cxI _).mono ?_
        rintro e z27 ⟨rfl, hz27⟩
        have BA127 := BA2.below hz27
        have BB127 := BB2.below hz27
        have BC127 := BC2.below hz27
        have HGz27 : Hid (Below w.heap.size w z27) := HG2.out.trans (hz27.mono HG2.out.size)
        clear hz27 HG2 BA2 BB2 BC2 a0 a1 a2 a3 a4 la b0 b1 b2 b3 b4 lb c0 c1 c2 c3 c4 lc
        have a0 := BA127.c0
        have a1 := BA127.c1
        have a2 := BA127.c2
        have a3 := BA127.c3
        have a4 := BA127.c4
        have la := BA127.lt
        have b0 := BB127.c0
        have b1 := BB127.c1
        have b2 := BB127.c2
        have b3 := BB127.c3
        have b4 := BB127.c4
        have lb := BB127.lt
        have c0 := BC127.c0
        have c1 := BC127.c1
        have c2 := BC127.c2
        have c3 := BC127.c3
        have c4 := BC127.c4
        have lc := BC127.lt
        go_wp2_with fail
        refine (cyI _).mono ?_
        rintro e z28 ⟨rfl, hz28⟩
        have BA128 := BA127.below hz28
        have BB128 := BB127.below hz28
        have BC128 := BC127.below hz28
        have HGz28 : Hid (Below w.heap.size w z28) := HGz27.out.trans (hz28.mono HGz27.out.size)
        clear hz28 HGz27 BA127 BB127 BC127 a0 a1 a2 a3 a4 la b0 b1 b2 b3 b4 lb c0 c1 c2 c3 c4 lc
        have a0 := BA128.c0
        have a1 := BA128.c1
        have a2 := BA128.c2
        have a3 := BA128.c3
        have a4 := BA128.c4
        have la := BA128.lt
        have b0 := BB128.c0
        have b1 := BB128.c1
        have b2 := BB128.c2
        have b3 := BB128.c3
        have b4 := BB128.c4
        have lb := BB128.lt
        have c0 := BC128.c0
        have c1 := BC128.c1
        have c2 := BC128.c2
        have c3 := BC128.c3
        have c4 := BC128.c4
        have lc := BC128.lt
        go_wp2_with fail
        refine (cxS _).mono ?_
        rintro e z29 ⟨rfl, hz29⟩
        have BA129 := BA128.below hz29
        have BB129 := BB128.below hz29
        have BC129 := BC128.below hz29
        have HGz29 : Hid (Below w.heap.size w z29) := HGz28.out.trans (hz29.mono HGz28.out.size)
        clear hz29 HGz28 BA128 BB128 BC128 a0 a1 a2 a3 a4 la b0 b1 b2 b3 b4 lb c0 c1 c2 c3 c4 lc
        have a0 := BA129.c0
        have a1 := BA129.c1
        have a2 := BA129.c2
        have a3 := BA129.c3
        have a4 := BA129.c4
        have la := BA129.lt
        have b0 := BB129.c0
        have b1 := BB129.c1
        have b2 := BB129.c2
        have b3 := BB129.c3
        have b4 := BB129.c4
        have lb := BB129.lt
        have c0 := BC129.c0
        have c1 := BC129.c1
        have c2 := BC129.c2
        have c3 := BC129.c3
        have c4 := BC129.c4
        have lc := BC129.lt
        go_wp2_with fail
        refine (cyS _).mono ?_
        rintro e z30 ⟨rfl, hz30⟩
        have BA130 := BA129.below hz30
        have BB130 := BB129.below hz30
        have BC130 := BC129.below hz30
        have HGz30 : Hid (Below w.heap.size w z30) := HGz29.out.trans (hz30.mono HGz29.out.size)
        clear hz30 HGz29 BA129 BB129 BC129 a0 a1 a2 a3 a4 la b0 b1 b2 b3 b4 lb c0 c1 c2 c3 c4 lc
        have a0 := BA130.c0
        have a1 := BA130.c1
        have a2 := BA130.c2
        have a3 := BA130.c3
        have a4 := BA130.c4
        have la := BA130.lt
        have b0 := BB130.c0
        have b1 := BB130.c1
        have b2 := BB130.c2
        have b3 := BB130.c3
        have b4 := BB130.c4
        have lb := BB130.lt
        have c0 := BC130.c0
        have c1 := BC130.c1
        have c2 := BC130.c2
        have c3 := BC130.c3
        have c4 := BC130.c4
        have lc := BC130.lt
        go_wp2_with fail
        refine (cs _).mono ?_
        rintro e z31 ⟨rfl, hz31⟩
        have BA131 := BA130.below hz31
        have BB131 := BB130.below hz31
        have BC131 := BC130.below hz31
        have HGz31 : Hid (Below w.heap.size w z31) := HGz30.out.trans (hz31.mono HGz30.out.size)
        clear hz31 HGz30 BA130 BB130 BC130 a0 a1 a2 a3 a4 la b0 b1 b2 b3 b4 lb c0 c1 c2 c3 c4 lc
        have a0 := BA131.c0
        have a1 := BA131.c1
        have a2 := BA131.c2
        have a3 := BA131.c3
        have a4 := BA131.c4
        have la := BA131.lt
        have b0 := BB131.c0
        have b1 := BB131.c1
        have b2 := BB131.c2
        have b3 := BB131.c3
        have b4 := BB131.c4
        have lb := BB131.lt
        go_wp2
        go_ret
        exact ⟨rfl, HGz31.out⟩
      · have hne : ¬ ka.toList = kb.toList := by rw [ByteArray.toList_eq, ByteArray.toList_eq]; exact fun h => he (ByteArray.ext (Array.toList_inj.1 h))
        have a0 := BA2.c0
        have a1 := BA2.c1
        have a2 := BA2.c2
        have a3 := BA2.c3
        have a4 := BA2.c4
        have la := BA2.lt
        have b0 := BB2.c0
        have b1 := BB2.c1
        have b2 := BB2.c2
        have b3 := BB2.c3
        have b4 := BB2.c4
        have lb := BB2.lt
        have c0 := BC2.c0
        have c1 := BC2.c1
        have c2 := BC2.c2
        have c3 := BC2.c3
        have c4 := BC2.c4
        have lc := BC2.lt
        go_wp2_with fail
        refine (cxI _).mono ?_
        rintro e z32 ⟨rfl, hz32⟩
        have BA132 := BA2.below hz32
        have BB132 := BB2.below hz32
        have BC132 := BC2.below hz32
        have HGz32 : Hid (Below w.heap.size w z32) := HG2.out.trans (hz32.mono HG2.out.size)
        clear hz32 HG2 BA2 BB2 BC2 a0 a1 a2 a3 a4 la b0 b1 b2 b3 b4 lb c0 c1 c2 c3 c4 lc
        have a0 := BA132.c0
        have a1 := BA132.c1
        have a2 := BA132.c2
        have a3 := BA132.c3
        have a4 := BA132.c4
        have la := BA132.lt
        have b0 := BB132.c0
        have b1 := BB132.c1
        have b2 := BB132.c2
        have b3 := BB132.c3
        have b4 := BB132.c4
        have lb := BB132.lt
        have c0 := BC132.c0
        have c1 := BC132.c1
        have c2 := BC132.c2
        have c3 := BC132.c3
        have c4 := BC132.c4
        have lc := BC132.lt
        go_wp2_with fail
        refine (cyI _).mono ?_
        rintro e z33 ⟨rfl, hz33⟩
        have BA133 := BA132.below hz33
        have BB133 := BB132.below hz33
        have BC133 := BC132.below hz33
        have HGz33 : Hid (Below w.heap.size w z33) := HGz32.out.trans (hz33.mono HGz32.out.size)
        clear hz33 HGz32 BA132 BB132 BC132 a0 a1 a2 a3 a4 la b0 b1 b2 b3 b4 lb c0 c1 c2 c3 c4 lc
        have a0 := BA133.c0
        have a1 := BA133.c1
        have a2 := BA133.c2
        have a3 := BA133.c3
        have a4 := BA133.c4
        have la := BA133.lt
        have b0 := BB133.c0
        have b1 := BB133.c1
        have b2 := BB133.c2
        have b3 := BB133.c3
        have b4 := BB133.c4
        have lb := BB133.lt
        have c0 := BC133.c0
        have c1 := BC133.c1
        have c2 := BC133.c2
        have c3 := BC133.c3
        have c4 := BC133.c4
        have lc := BC133.lt
        go_wp2_with fail
        refine (cxS _).mono ?_
        rintro e z34 ⟨rfl, hz34⟩
        have BA134 := BA133.below hz34
        have BB134 := BB133.below hz34
        have BC134 := BC133.below hz34
        have HGz34 : Hid (Below w.heap.size w z34) := HGz33.out.trans (hz34.mono HGz33.out.size)
        clear hz34 HGz33 BA133 BB133 BC133 a0 a1 a2 a3 a4 la b0 b1 b2 b3 b4 lb c0 c1 c2 c3 c4 lc
        have a0 := BA134.c0
        have a1 := BA134.c1
        have a2 := BA134.c2
        have a3 := BA134.c3
        have a4 := BA134.c4
        have la := BA134.lt
        have b0 := BB134.c0
        have b1 := BB134.c1
        have b2 := BB134.c2
        have b3 := BB134.c3
        have b4 := BB134.c4
        have lb := BB134.lt
        have c0 := BC134.c0
        have c1 := BC134.c1
        have c2 := BC134.c2
        have c3 := BC134.c3
        have c4 := BC134.c4
        have lc := BC134.lt
        go_wp2_with fail
        refine (cyS _).mono ?_
        rintro e z35 ⟨rfl, hz35⟩
        have BA135 := BA134.below hz35
        have BB135 := BB134.below hz35
        have BC135 := BC134.below hz35
        have HGz35 : Hid (Below w.heap.size w z35) := HGz34.out.trans (hz35.mono HGz34.out.size)
        clear hz35 HGz34 BA134 BB134 BC134 a0 a1 a2 a3 a4 la b0 b1 b2 b3 b4 lb c0 c1 c2 c3 c4 lc
        have a0 := BA135.c0
        have a1 := BA135.c1
        have a2 := BA135.c2
        have a3 := BA135.c3
        have a4 := BA135.c4
        have la := BA135.lt
        have b0 := BB135.c0
        have b1 := BB135.c1
        have b2 := BB135.c2
        have b3 := BB135.c3
        have b4 := BB135.c4
        have lb := BB135.lt
        have c0 := BC135.c0
        have c1 := BC135.c1
        have c2 := BC135.c2
        have c3 := BC135.c3
        have c4 := BC135.c4
        have lc := BC135.lt
        go_wp2_with fail
        refine (cs _).mono ?_
        rintro e z36 ⟨rfl, hz36⟩
        have BA136 := BA135.below hz36
        have BB136 := BB135.below hz36
        have BC136 := BC135.below hz36
        have HGz36 : Hid (Below w.heap.size w z36) := HGz35.out.trans (hz36.mono HGz35.out.size)
        clear hz36 HGz35 BA135 BB135 BC135 a0 a1 a2 a3 a4 la b0 b1 b2 b3 b4 lb c0 c1 c2 c3 c4 lc
        have a0 := BA136.c0
        have a1 := BA136.c1
        have a2 := BA136.c2
        have a3 := BA136.c3
        have a4 := BA136.c4
        have la := BA136.lt
        have b0 := BB136.c0
        have b1 := BB136.c1
        have b2 := BB136.c2
        have b3 := BB136.c3
        have b4 := BB136.c4
        have lb := BB136.lt
        go_wp2
        go_ret
        exact ⟨rfl, HGz36.out⟩
    | false =>
      have he : ka = kb := by
        by_cases h : ka = kb
        · exact h
        · have := HONE.out; simp [h] at this
      have hq : qa = qb := by
        by_cases h : qa = qb
        · exact h
        · have := HONE.out; simp [h] at this
      subst he
      subst hq
      have a0 := BA2.c0
      have a1 := BA2.c1
      have a2 := BA2.c2
      have a3 := BA2.c3
      have a4 := BA2.c4
      have la := BA2.lt
      have b0 := BB2.c0
      have b1 := BB2.c1
      have b2 := BB2.c2
      have b3 := BB2.c3
      have b4 := BB2.c4
      have lb := BB2.lt
      have c0 := BC2.c0
      have c1 := BC2.c1
      have c2 := BC2.c2
      have c3 := BC2.c3
      have c4 := BC2.c4
      have lc := BC2.lt
      go_wp2_with fail
      refine (cxI _).mono ?_
      rintro e z37 ⟨rfl, hz37⟩
      have BA137 := BA2.below hz37
      have BB137 := BB2.below hz37
      have BC137 := BC2.below hz37
      have HGz37 : Hid (Below w.heap.size w z37) := HG2.out.trans (hz37.mono HG2.out.size)
      clear hz37 HG2 BA2 BB2 BC2 a0 a1 a2 a3 a4 la b0 b1 b2 b3 b4 lb c0 c1 c2 c3 c4 lc
      have a0 := BA137.c0
      have a1 := BA137.c1
      have a2 := BA137.c2
      have a3 := BA137.c3
      have a4 := BA137.c4
      have la := BA137.lt
      have b0 := BB137.c0
      have b1 := BB137.c1
      have b2 := BB137.c2
      have b3 := BB137.c3
      have b4 := BB137.c4
      have lb := BB137.lt
      have c0 := BC137.c0
      have c1 := BC137.c1
      have c2 := BC137.c2
      have c3 := BC137.c3
      have c4 := BC137.c4
      have lc := BC137.lt
      go_wp2_with fail
      refine (cyI _).mono ?_
      rintro e z38 ⟨rfl, hz38⟩
      have BA138 := BA137.below hz38
      have BB138 := BB137.below hz38
      have BC138 := BC137.below hz38
      have HGz38 : Hid (Below w.heap.size w z38) := HGz37.out.trans (hz38.mono HGz37.out.size)
      clear hz38 HGz37 BA137 BB137 BC137 a0 a1 a2 a3 a4 la b0 b1 b2 b3 b4 lb c0 c1 c2 c3 c4 lc
      have a0 := BA138.c0
      have a1 := BA138.c1
      have a2 := BA138.c2
      have a3 := BA138.c3
      have a4 := BA138.c4
      have la := BA138.lt
      have b0 := BB138.c0
      have b1 := BB138.c1
      have b2 := BB138.c2
      have b3 := BB138.c3
      have b4 := BB138.c4
      have lb := BB138.lt
      have c0 := BC138.c0
      have c1 := BC138.c1
      have c2 := BC138.c2
      have c3 := BC138.c3
      have c4 := BC138.c4
      have lc := BC138.lt
      go_wp2_with fail
      refine (cxS _).mono ?_
      rintro e z39 ⟨rfl, hz39⟩
      have BA139 := BA138.below hz39
      have BB139 := BB138.below hz39
      have BC139 := BC138.below hz39
      have HGz39 : Hid (Below w.heap.size w z39) := HGz38.out.trans (hz39.mono HGz38.out.size)
      clear hz39 HGz38 BA138 BB138 BC138 a0 a1 a2 a3 a4 la b0 b1 b2 b3 b4 lb c0 c1 c2 c3 c4 lc
      have a0 := BA139.c0
      have a1 := BA139.c1
      have a2 := BA139.c2
      have a3 := BA139.c3
      have a4 := BA139.c4
      have la := BA139.lt
      have b0 := BB139.c0
      have b1 := BB139.c1
      have b2 := BB139.c2
      have b3 := BB139.c3
      have b4 := BB139.c4
      have lb := BB139.lt
      have c0 := BC139.c0
      have c1 := BC139.c1
      have c2 := BC139.c2
      have c3 := BC139.c3
      have c4 := BC139.c4
      have lc := BC139.lt
      go_wp2_with fail
      refine (cyS _).mono ?_
      rintro e z40 ⟨rfl, hz40⟩
      have BA140 := BA139.below hz40
      have BB140 := BB139.below hz40
      have BC140 := BC139.below hz40
      have HGz40 : Hid (Below w.heap.size w z40) := HGz39.out.trans (hz40.mono HGz39.out.size)
      clear hz40 HGz39 BA139 BB139 BC139 a0 a1 a2 a3 a4 la b0 b1 b2 b3 b4 lb c0 c1 c2 c3 c4 lc
      have a0 := BA140.c0
      have a1 := BA140.c1
      have a2 := BA140.c2
      have a3 := BA140.c3
      have a4 := BA140.c4
      have la := BA140.lt
      have b0 := BB140.c0
      have b1 := BB140.c1
      have b2 := BB140.c2
      have b3 := BB140.c3
      have b4 := BB140.c4
      have lb := BB140.lt
      have c0 := BC140.c0
      have c1 := BC140.c1
      have c2 := BC140.c2
      have c3 := BC140.c3
      have c4 := BC140.c4
      have lc := BC140.lt
      go_wp2_with fail
      refine (cs _).mono ?_
      rintro e z41 ⟨rfl, hz41⟩
      have BA141 := BA140.below hz41
      have BB141 := BB140.below hz41
      have BC141 := BC140.below hz41
      have HGz41 : Hid (Below w.heap.size w z41) := HGz40.out.trans (hz41.mono HGz40.out.size)
      clear hz41 HGz40 BA140 BB140 BC140 a0 a1 a2 a3 a4 la b0 b1 b2 b3 b4 lb c0 c1 c2 c3 c4 lc
      have a0 := BA141.c0
      have a1 := BA141.c1
      have a2 := BA141.c2
      have a3 := BA141.c3
      have a4 := BA141.c4
      have la := BA141.lt
      have b0 := BB141.c0
      have b1 := BB141.c1
      have b2 := BB141.c2
      have b3 := BB141.c3
      have b4 := BB141.c4
      have lb := BB141.lt
      go_wp2
      go_ret
      exact ⟨rfl, HGz41.out⟩

end Go.Proofs.Ytpaknibaeieobaa
