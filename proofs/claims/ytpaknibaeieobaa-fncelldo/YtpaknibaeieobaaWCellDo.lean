/-
  The walk of the law FnCellDo: it answers true at all bytes.
-/
import Derived.Test.YtpaknibaeieobaaDrawCell
import Derived.Test.YtpaknibaeieobaaCellI
import Derived.Test.YtpaknibaeieobaaBytes
import Derived.Deep.RegionHeld3
namespace Go.Proofs.Ytpaknibaeieobaa
open Go.RowKit

attribute [local go_sem] Oper.semAt_some

theorem pair_new (w : World) (v0 v1 v2 u0 u1 u2 u3 u4 : Value) (T T' : TypeId) : Box5 ((w.alloc (.cells #[v0, v1, v2] T)).alloc (.cells #[u0, u1, u2, u3, u4] T')) (w.heap.size + 1) u0 u1 u2 u3 u4 := by
  have := Box5.new (w.alloc (.cells #[v0, v1, v2] T)) T' u0 u1 u2 u3 u4
  simpa using this

theorem two_new (w : World) (v0 v1 v2 v3 v4 u0 u1 u2 u3 u4 : Value) (T : TypeId) : Box5 ((w.alloc (.cells #[v0, v1, v2, v3, v4] T)).alloc (.cells #[u0, u1, u2, u3, u4] T)) (w.heap.size + 1) u0 u1 u2 u3 u4 := by
  have := Box5.new (w.alloc (.cells #[v0, v1, v2, v3, v4] T)) T u0 u1 u2 u3 u4
  simpa using this
theorem wrap_swap (a b c : Int) : wrap64 (wrap64 (a + b) + c) = wrap64 (wrap64 (a + c) + b) := by unfold wrap64; omega
theorem wrap_both (a b c : Int) : wrap64 (a + IntKind.i64.wrap (b + c)) = wrap64 (wrap64 (a + b) + c) := by rw [IntKind.wrap_i64]; unfold wrap64; omega

set_option maxRecDepth 100000 in
set_option maxHeartbeats 8000000 in
theorem walkFnCellDo (a : Option Addr) (len cap : Nat) (a' : Option Addr) (len' cap' : Nat) (w : World) (hb : BytesAt w a len cap) (hb' : BytesAt w a' len' cap') :
    Calls Try.prog 13 #[.slice a len cap, .slice a' len' cap'] w fun e w' => e = .returned (.bool true) ∧ Below w.heap.size w w' := by
  have HB : Hid (BytesAt w a len cap) := hb
  have HB' : Hid (BytesAt w a' len' cap') := hb'
  have hc1 := hb.1
  have hc2 := hb.2.1
  have hc3 := hb'.1
  have hc4 := hb'.2.1
  unfold maxLen at hc2 hc4
  clear hb hb'
  by_cases hbig : 1048576 < len
  · go_enter Try.func13, Try.ntmps13
    go_wp2
    go_ret
    exact ⟨rfl, Below.refl _ _⟩
  by_cases hbig2 : 1048576 < len'
  · go_enter Try.func13, Try.ntmps13
    go_wp2
    go_ret
    exact ⟨rfl, Below.refl _ _⟩
  go_enter Try.func13, Try.ntmps13
  go_wp2_with fail
  refine (drawCell_any a len cap _ HB.out).mono ?_
  rintro e w1 ⟨cb, ct, cn, ek, et, eq, ed, en, rfl, hct, hFe, hb1⟩
  go_upto_region 4 with fail
  obtain ⟨A, hA⟩ : ∃ E, E = w1.heap.size := ⟨_, rfl⟩
  obtain ⟨W1, hW1⟩ : ∃ W, W = (w1.alloc (.cells #[.bool cb, .string ct, .int .i64 cn] 35)).alloc (.cells #[.string ek, .int .i64 eq, .int .i64 ed, .string et, .int .i64 en] 27) := ⟨_, rfl⟩
  have kk : Below w1.heap.size w1 W1 := by rw [hW1]; exact ((Below.refl _ _).alloc (Nat.le_refl _) _).alloc (by simp) _
  have BC1 : Box3 W1 A (.bool cb) (.string ct) (.int .i64 cn) := by rw [hW1, hA]; exact (Box3.new _ _ _ _ _).alloc _
  have BE1 : Box5 W1 (A + 1) (.string ek) (.int .i64 eq) (.int .i64 ed) (.string et) (.int .i64 en) := by rw [hW1, hA]; exact pair_new _ _ _ _ _ _ _ _ _ _ _
  have HG1 : Hid (Below w.heap.size w W1) := hb1.trans (kk.mono hb1.size)
  rw [← hW1, ← hA]
  clear hW1 hA kk hb1
  obtain ⟨AE, hAE⟩ : ∃ E, E = A + 1 := ⟨_, rfl⟩
  rw [← hAE] at BE1 ⊢
  clear hAE
  go_wp2_with fail
  refine (drawCell_any a' len' cap' _ (HB'.out.keep HG1.out)).mono ?_
  rintro e w2 ⟨db, dt, dn, fk, ft, fq, fd, fn, rfl, hdt, hFf, hb2⟩
  go_upto_region 5 with fail
  obtain ⟨D, hD⟩ : ∃ E, E = w2.heap.size := ⟨_, rfl⟩
  obtain ⟨W2, hW2⟩ : ∃ W, W = (w2.alloc (.cells #[.bool db, .string dt, .int .i64 dn] 35)).alloc (.cells #[.string fk, .int .i64 fq, .int .i64 fd, .string ft, .int .i64 fn] 27) := ⟨_, rfl⟩
  have kk : Below w2.heap.size w2 W2 := by rw [hW2]; exact ((Below.refl _ _).alloc (Nat.le_refl _) _).alloc (by simp) _
  have BD2 : Box3 W2 D (.bool db) (.string dt) (.int .i64 dn) := by rw [hW2, hD]; exact (Box3.new _ _ _ _ _).alloc _
  have BF2 : Box5 W2 (D + 1) (.string fk) (.int .i64 fq) (.int .i64 fd) (.string ft) (.int .i64 fn) := by rw [hW2, hD]; exact pair_new _ _ _ _ _ _ _ _ _ _ _
  have BC2 := (BC1.below hb2).below kk
  have BE2 := (BE1.below hb2).below kk
  have HG2 : Hid (Below w.heap.size w W2) := (HG1.out.trans (hb2.mono HG1.out.size)).trans (kk.mono (HG1.out.trans (hb2.mono HG1.out.size)).size)
  rw [← hW2, ← hD]
  clear hW2 hD kk hb2 BC1 BE1 HG1
  obtain ⟨DF, hDF⟩ : ∃ E, E = D + 1 := ⟨_, rfl⟩
  rw [← hDF] at BF2 ⊢
  clear hDF HB HB'
  have zct : ct.size ≤ 281474976710656 := by unfold Few at hct; omega
  have zet : et.size ≤ 281474976710656 := by have := hFe.2.1; unfold Few at this; omega
  have zdt : dt.size ≤ 281474976710656 := by unfold Few at hdt; omega
  have zft : ft.size ≤ 281474976710656 := by have := hFf.2.1; unfold Few at this; omega
  clear hct hdt hFe hFf
  obtain ⟨xb, xt, xn, hx⟩ : ∃ xb xt xn, cellN cb ct cn ed et en = (xb, xt, xn) := ⟨_, _, _, rfl⟩
  obtain ⟨yb, yt, yn, hy⟩ : ∃ yb yt yn, cellN db dt dn fd ft fn = (yb, yt, yn) := ⟨_, _, _, rfl⟩
  have xI : ∀ w, Calls Try.prog 26 #[.agg #[.bool cb, .string ct, .int .i64 cn], .agg #[.string ek, .int .i64 eq, .int .i64 ed, .string et, .int .i64 en]] w fun e w' => e = .returned (.agg #[.bool xb, .string xt, .int .i64 xn]) ∧ Below w.heap.size w w' := fun w => (implCell cb ct ek et cn eq ed en w zct zet).mono (fun e w' h => by rw [hx] at h; exact h)
  have xS : ∀ w, Calls Try.prog 24 #[.agg #[.bool cb, .string ct, .int .i64 cn], .agg #[.string ek, .int .i64 eq, .int .i64 ed, .string et, .int .i64 en]] w fun e w' => e = .returned (.agg #[.bool xb, .string xt, .int .i64 xn]) ∧ Below w.heap.size w w' := fun w => (specCell cb ct ek et cn eq ed en w).mono (fun e w' h => by rw [hx] at h; exact h)
  have yI : ∀ w, Calls Try.prog 26 #[.agg #[.bool db, .string dt, .int .i64 dn], .agg #[.string fk, .int .i64 fq, .int .i64 fd, .string ft, .int .i64 fn]] w fun e w' => e = .returned (.agg #[.bool yb, .string yt, .int .i64 yn]) ∧ Below w.heap.size w w' := fun w => (implCell db dt fk ft dn fq fd fn w zdt zft).mono (fun e w' h => by rw [hy] at h; exact h)
  have yS : ∀ w, Calls Try.prog 24 #[.agg #[.bool db, .string dt, .int .i64 dn], .agg #[.string fk, .int .i64 fq, .int .i64 fd, .string ft, .int .i64 fn]] w fun e w' => e = .returned (.agg #[.bool yb, .string yt, .int .i64 yn]) ∧ Below w.heap.size w w' := fun w => (specCell db dt fk ft dn fq fd fn w).mono (fun e w' h => by rw [hy] at h; exact h)
  clear hy
  have c0 := BC2.c0
  have c1 := BC2.c1
  have c2 := BC2.c2
  have lc := BC2.lt
  have e0 := BE2.c0
  have e1 := BE2.c1
  have e2 := BE2.c2
  have e3 := BE2.c3
  have e4 := BE2.c4
  have le := BE2.lt
  go_wp2_with fail
  refine (xI _).mono ?_
  rintro e w3 ⟨rfl, hb3⟩
  clear c0 c1 c2 lc e0 e1 e2 e3 e4 le
  go_upto_region 6 with fail
  obtain ⟨Z, hZ⟩ : ∃ E, E = w3.heap.size := ⟨_, rfl⟩
  obtain ⟨W, hW⟩ : ∃ W, W = w3.alloc (.cells #[.bool xb, .string xt, .int .i64 xn] 35) := ⟨_, rfl⟩
  have kk : Below w3.heap.size w3 W := by rw [hW]; exact (Below.refl _ _).alloc (Nat.le_refl _) _
  have BX : Box3 W Z (.bool xb) (.string xt) (.int .i64 xn) := by rw [hW, hZ]; exact Box3.new _ _ _ _ _
  have BC := (BC2.below hb3).below kk
  have BE := (BE2.below hb3).below kk
  have BD := (BD2.below hb3).below kk
  have BF := (BF2.below hb3).below kk
  have HK : Hid (Below w.heap.size w W) := (HG2.out.trans (hb3.mono HG2.out.size)).trans (kk.mono (HG2.out.trans (hb3.mono HG2.out.size)).size)
  rw [← hW, ← hZ]
  clear hW hZ kk hb3 BC2 BE2 BD2 BF2 HG2 xI
  have m0 : Below W.heap.size W W.drew := (Below.refl _ W).drew
  have HMa : Hid (∀ w', Below W.heap.size W w' → (w'.cell? ⟨A, 0, none⟩ = some (.bool cb) ∧ w'.cell? ⟨A, 1, none⟩ = some (.string ct) ∧ w'.cell? ⟨A, 2, none⟩ = some (.int .i64 cn) ∧ w'.cell? ⟨AE, 0, none⟩ = some (.string ek) ∧ w'.cell? ⟨AE, 1, none⟩ = some (.int .i64 eq) ∧ w'.cell? ⟨AE, 2, none⟩ = some (.int .i64 ed) ∧ w'.cell? ⟨AE, 3, none⟩ = some (.string et) ∧ w'.cell? ⟨AE, 4, none⟩ = some (.int .i64 en) ∧ w'.cell? ⟨D, 0, none⟩ = some (.bool db) ∧ w'.cell? ⟨D, 1, none⟩ = some (.string dt) ∧ w'.cell? ⟨D, 2, none⟩ = some (.int .i64 dn) ∧ w'.cell? ⟨DF, 0, none⟩ = some (.string fk) ∧ w'.cell? ⟨DF, 1, none⟩ = some (.int .i64 fq) ∧ w'.cell? ⟨DF, 2, none⟩ = some (.int .i64 fd) ∧ w'.cell? ⟨DF, 3, none⟩ = some (.string ft) ∧ w'.cell? ⟨DF, 4, none⟩ = some (.int .i64 fn) ∧ w'.cell? ⟨Z, 0, none⟩ = some (.bool xb) ∧ w'.cell? ⟨Z, 1, none⟩ = some (.string xt) ∧ w'.cell? ⟨Z, 2, none⟩ = some (.int .i64 xn) ∧ A < w'.heap.size ∧ AE < w'.heap.size ∧ D < w'.heap.size ∧ DF < w'.heap.size ∧ Z < w'.heap.size ∧ Below W.heap.size W w')) := fun w' k => ⟨cell_later k BC.c0, cell_later k BC.c1, cell_later k BC.c2, cell_later k BE.c0, cell_later k BE.c1, cell_later k BE.c2, cell_later k BE.c3, cell_later k BE.c4, cell_later k BD.c0, cell_later k BD.c1, cell_later k BD.c2, cell_later k BF.c0, cell_later k BF.c1, cell_later k BF.c2, cell_later k BF.c3, cell_later k BF.c4, cell_later k BX.c0, cell_later k BX.c1, cell_later k BX.c2, (Nat.lt_of_lt_of_le BC.lt k.size), (Nat.lt_of_lt_of_le BE.lt k.size), (Nat.lt_of_lt_of_le BD.lt k.size), (Nat.lt_of_lt_of_le BF.lt k.size), (Nat.lt_of_lt_of_le BX.lt k.size), k⟩
  go_region_held3 (fun w' => w'.cell? ⟨A, 0, none⟩ = some (.bool cb) ∧ w'.cell? ⟨A, 1, none⟩ = some (.string ct) ∧ w'.cell? ⟨A, 2, none⟩ = some (.int .i64 cn) ∧ w'.cell? ⟨AE, 0, none⟩ = some (.string ek) ∧ w'.cell? ⟨AE, 1, none⟩ = some (.int .i64 eq) ∧ w'.cell? ⟨AE, 2, none⟩ = some (.int .i64 ed) ∧ w'.cell? ⟨AE, 3, none⟩ = some (.string et) ∧ w'.cell? ⟨AE, 4, none⟩ = some (.int .i64 en) ∧ w'.cell? ⟨D, 0, none⟩ = some (.bool db) ∧ w'.cell? ⟨D, 1, none⟩ = some (.string dt) ∧ w'.cell? ⟨D, 2, none⟩ = some (.int .i64 dn) ∧ w'.cell? ⟨DF, 0, none⟩ = some (.string fk) ∧ w'.cell? ⟨DF, 1, none⟩ = some (.int .i64 fq) ∧ w'.cell? ⟨DF, 2, none⟩ = some (.int .i64 fd) ∧ w'.cell? ⟨DF, 3, none⟩ = some (.string ft) ∧ w'.cell? ⟨DF, 4, none⟩ = some (.int .i64 fn) ∧ w'.cell? ⟨Z, 0, none⟩ = some (.bool xb) ∧ w'.cell? ⟨Z, 1, none⟩ = some (.string xt) ∧ w'.cell? ⟨Z, 2, none⟩ = some (.int .i64 xn) ∧ A < w'.heap.size ∧ AE < w'.heap.size ∧ D < w'.heap.size ∧ DF < w'.heap.size ∧ Z < w'.heap.size ∧ Below W.heap.size W w') (first | with_reducible exact HMa.out _ m3 | with_reducible exact HMa.out _ m2 | with_reducible exact HMa.out _ m1 | with_reducible exact HMa.out _ m0) (first
    | (have _ := m2; go_at_call 24; with_reducible refine (yS _).mono ?_; rintro e v3 ⟨rfl, hv3⟩; have m3 := m2.trans (hv3.mono m2.size))
    | (have _ := m1; go_at_call 26; with_reducible refine (yI _).mono ?_; rintro e v2 ⟨rfl, hv2⟩; have m2 := m1.trans (hv2.mono m1.size))
    | (have _ := m0; go_at_call 24; with_reducible refine (xS _).mono ?_; rintro e v1 ⟨rfl, hv1⟩; have m1 := m0.trans (hv1.mono m0.size)))
  all_goals
    have BC3 := BC.below m3
    have BE3 := BE.below m3
    have BD3 := BD.below m3
    have BF3 := BF.below m3
    have BX3 := BX.below m3
    have HK3 : Hid (Below w.heap.size w v3) := HK.out.trans (m3.mono HK.out.size)
    clear hv1 hv2 hv3 m0 m1 m2 m3 HMa HK BC BE BD BF BX xS yI yS
    have q2 := BE3.c2
    have lq := BE3.lt
    by_cases d1 : ed = 1
    · subst d1
      rw [cellN_1] at hx
      simp only [Prod.mk.injEq] at hx
      obtain ⟨rfl, rfl, rfl⟩ := hx
      have zI : ∀ w, Calls Try.prog 26 #[.agg #[.bool db, .string dt, .int .i64 dn], .agg #[.string ek, .int .i64 eq, .int .i64 1, .string et, .int .i64 en]] w fun e w' => e = .returned (.agg #[.bool true, .string et, .int .i64 en]) ∧ Below w.heap.size w w' := fun w => (implCell db dt ek et dn eq 1 en w zdt zet).mono (fun e w' h => by rw [cellN_1] at h; exact h)
      go_upto_region 10 with fail
      have m0 : Below v3.heap.size v3 v3.drew := (Below.refl _ v3).drew
      have HMb : Hid (∀ w', Below v3.heap.size v3 w' → (w'.cell? ⟨AE, 0, none⟩ = some (.string ek) ∧ w'.cell? ⟨AE, 1, none⟩ = some (.int .i64 eq) ∧ w'.cell? ⟨AE, 2, none⟩ = some (.int .i64 1) ∧ w'.cell? ⟨AE, 3, none⟩ = some (.string et) ∧ w'.cell? ⟨AE, 4, none⟩ = some (.int .i64 en) ∧ w'.cell? ⟨D, 0, none⟩ = some (.bool db) ∧ w'.cell? ⟨D, 1, none⟩ = some (.string dt) ∧ w'.cell? ⟨D, 2, none⟩ = some (.int .i64 dn) ∧ w'.cell? ⟨Z, 0, none⟩ = some (.bool true) ∧ w'.cell? ⟨Z, 1, none⟩ = some (.string et) ∧ w'.cell? ⟨Z, 2, none⟩ = some (.int .i64 en) ∧ AE < w'.heap.size ∧ D < w'.heap.size ∧ Z < w'.heap.size ∧ Below v3.heap.size v3 w')) := fun w' k => ⟨cell_later k BE3.c0, cell_later k BE3.c1, cell_later k BE3.c2, cell_later k BE3.c3, cell_later k BE3.c4, cell_later k BD3.c0, cell_later k BD3.c1, cell_later k BD3.c2, cell_later k BX3.c0, cell_later k BX3.c1, cell_later k BX3.c2, (Nat.lt_of_lt_of_le BE3.lt k.size), (Nat.lt_of_lt_of_le BD3.lt k.size), (Nat.lt_of_lt_of_le BX3.lt k.size), k⟩
      go_region_held3 (fun w' => w'.cell? ⟨AE, 0, none⟩ = some (.string ek) ∧ w'.cell? ⟨AE, 1, none⟩ = some (.int .i64 eq) ∧ w'.cell? ⟨AE, 2, none⟩ = some (.int .i64 1) ∧ w'.cell? ⟨AE, 3, none⟩ = some (.string et) ∧ w'.cell? ⟨AE, 4, none⟩ = some (.int .i64 en) ∧ w'.cell? ⟨D, 0, none⟩ = some (.bool db) ∧ w'.cell? ⟨D, 1, none⟩ = some (.string dt) ∧ w'.cell? ⟨D, 2, none⟩ = some (.int .i64 dn) ∧ w'.cell? ⟨Z, 0, none⟩ = some (.bool true) ∧ w'.cell? ⟨Z, 1, none⟩ = some (.string et) ∧ w'.cell? ⟨Z, 2, none⟩ = some (.int .i64 en) ∧ AE < w'.heap.size ∧ D < w'.heap.size ∧ Z < w'.heap.size ∧ Below v3.heap.size v3 w') (first | with_reducible exact HMb.out _ m1 | with_reducible exact HMb.out _ m0) (first
        | (have _ := m0; go_at_call 26; with_reducible refine (zI _).mono ?_; rintro e v1 ⟨rfl, hv1⟩; have m1 := m0.trans (hv1.mono m0.size)))
      all_goals
        go_wp2
        go_ret
        exact ⟨rfl, HK3.out.trans (m1.mono HK3.out.size)⟩
    by_cases d2 : ed = 2
    · subst d2
      rw [cellN_2] at hx
      simp only [Prod.mk.injEq] at hx
      obtain ⟨rfl, rfl, rfl⟩ := hx
      have zI : ∀ w, Calls Try.prog 26 #[.agg #[.bool db, .string dt, .int .i64 dn], .agg #[.string ek, .int .i64 eq, .int .i64 2, .string et, .int .i64 en]] w fun e w' => e = .returned (.agg #[.bool false, .string ⟨#[]⟩, .int .i64 0]) ∧ Below w.heap.size w w' := fun w => (implCell db dt ek et dn eq 2 en w zdt zet).mono (fun e w' h => by rw [cellN_2] at h; exact h)
      go_upto_region 12 with fail
      have m0 : Below v3.heap.size v3 v3.drew := (Below.refl _ v3).drew
      have HMb : Hid (∀ w', Below v3.heap.size v3 w' → (w'.cell? ⟨AE, 0, none⟩ = some (.string ek) ∧ w'.cell? ⟨AE, 1, none⟩ = some (.int .i64 eq) ∧ w'.cell? ⟨AE, 2, none⟩ = some (.int .i64 2) ∧ w'.cell? ⟨AE, 3, none⟩ = some (.string et) ∧ w'.cell? ⟨AE, 4, none⟩ = some (.int .i64 en) ∧ w'.cell? ⟨D, 0, none⟩ = some (.bool db) ∧ w'.cell? ⟨D, 1, none⟩ = some (.string dt) ∧ w'.cell? ⟨D, 2, none⟩ = some (.int .i64 dn) ∧ w'.cell? ⟨Z, 0, none⟩ = some (.bool false) ∧ w'.cell? ⟨Z, 1, none⟩ = some (.string ⟨#[]⟩) ∧ w'.cell? ⟨Z, 2, none⟩ = some (.int .i64 0) ∧ AE < w'.heap.size ∧ D < w'.heap.size ∧ Z < w'.heap.size ∧ Below v3.heap.size v3 w')) := fun w' k => ⟨cell_later k BE3.c0, cell_later k BE3.c1, cell_later k BE3.c2, cell_later k BE3.c3, cell_later k BE3.c4, cell_later k BD3.c0, cell_later k BD3.c1, cell_later k BD3.c2, cell_later k BX3.c0, cell_later k BX3.c1, cell_later k BX3.c2, (Nat.lt_of_lt_of_le BE3.lt k.size), (Nat.lt_of_lt_of_le BD3.lt k.size), (Nat.lt_of_lt_of_le BX3.lt k.size), k⟩
      go_region_held3 (fun w' => w'.cell? ⟨AE, 0, none⟩ = some (.string ek) ∧ w'.cell? ⟨AE, 1, none⟩ = some (.int .i64 eq) ∧ w'.cell? ⟨AE, 2, none⟩ = some (.int .i64 2) ∧ w'.cell? ⟨AE, 3, none⟩ = some (.string et) ∧ w'.cell? ⟨AE, 4, none⟩ = some (.int .i64 en) ∧ w'.cell? ⟨D, 0, none⟩ = some (.bool db) ∧ w'.cell? ⟨D, 1, none⟩ = some (.string dt) ∧ w'.cell? ⟨D, 2, none⟩ = some (.int .i64 dn) ∧ w'.cell? ⟨Z, 0, none⟩ = some (.bool false) ∧ w'.cell? ⟨Z, 1, none⟩ = some (.string ⟨#[]⟩) ∧ w'.cell? ⟨Z, 2, none⟩ = some (.int .i64 0) ∧ AE < w'.heap.size ∧ D < w'.heap.size ∧ Z < w'.heap.size ∧ Below v3.heap.size v3 w') (first | with_reducible exact HMb.out _ m1 | with_reducible exact HMb.out _ m0) (first
        | (have _ := m0; go_at_call 26; with_reducible refine (zI _).mono ?_; rintro e v1 ⟨rfl, hv1⟩; have m1 := m0.trans (hv1.mono m0.size)))
      all_goals
        go_wp2
        go_ret
        exact ⟨rfl, HK3.out.trans (m1.mono HK3.out.size)⟩
    by_cases d3 : ed = 3
    · subst d3
      rw [cellN_3] at hx
      simp only [Prod.mk.injEq] at hx
      obtain ⟨rfl, rfl, hxn⟩ := hx
      obtain ⟨bn, hbn⟩ : ∃ b, IntKind.i64.wrap (en + fn) = b := ⟨_, rfl⟩
      obtain ⟨pn, hpn⟩ : ∃ b, wrap64 (cn + fn) = b := ⟨_, rfl⟩
      obtain ⟨mn, hmn⟩ : ∃ b, wrap64 (xn + fn) = b := ⟨_, rfl⟩
      have zz : (⟨#[]⟩ : ByteArray).size ≤ 281474976710656 := by decide
      have E1 : wrap64 (pn + en) = mn := by rw [← hpn, ← hmn, ← hxn]; exact wrap_swap cn fn en
      have E2 : wrap64 (cn + bn) = mn := by rw [← hbn, ← hmn, ← hxn]; exact wrap_both cn en fn
      have t1 : ∀ w, Calls Try.prog 26 #[.agg #[.bool true, .string ct, .int .i64 xn], .agg #[.string ⟨#[]⟩, .int .i64 0, .int .i64 3, .string ⟨#[]⟩, .int .i64 fn]] w fun e w' => e = .returned (.agg #[.bool true, .string ct, .int .i64 mn]) ∧ Below w.heap.size w w' := fun w => (implCell true ct ⟨#[]⟩ ⟨#[]⟩ xn 0 3 fn w zct zz).mono (fun e w' h => by rw [cellN_3, hmn] at h; exact h)
      have t2 : ∀ w, Calls Try.prog 26 #[.agg #[.bool cb, .string ct, .int .i64 cn], .agg #[.string ⟨#[]⟩, .int .i64 0, .int .i64 3, .string ⟨#[]⟩, .int .i64 fn]] w fun e w' => e = .returned (.agg #[.bool true, .string ct, .int .i64 pn]) ∧ Below w.heap.size w w' := fun w => (implCell cb ct ⟨#[]⟩ ⟨#[]⟩ cn 0 3 fn w zct zz).mono (fun e w' h => by rw [cellN_3, hpn] at h; exact h)
      have t3 : ∀ w, Calls Try.prog 26 #[.agg #[.bool true, .string ct, .int .i64 pn], .agg #[.string ek, .int .i64 eq, .int .i64 3, .string et, .int .i64 en]] w fun e w' => e = .returned (.agg #[.bool true, .string ct, .int .i64 mn]) ∧ Below w.heap.size w w' := fun w => (implCell true ct ek et pn eq 3 en w zct zet).mono (fun e w' h => by rw [cellN_3, E1] at h; exact h)
      have t5 : ∀ w, Calls Try.prog 26 #[.agg #[.bool cb, .string ct, .int .i64 cn], .agg #[.string ⟨#[]⟩, .int .i64 0, .int .i64 3, .string ⟨#[]⟩, .int .i64 bn]] w fun e w' => e = .returned (.agg #[.bool true, .string ct, .int .i64 mn]) ∧ Below w.heap.size w w' := fun w => (implCell cb ct ⟨#[]⟩ ⟨#[]⟩ cn 0 3 bn w zct zz).mono (fun e w' h => by rw [cellN_3, E2] at h; exact h)
      clear hxn hpn hmn E1 E2
      have q4 := BE3.c4
      have r4 := BF3.c4
      have lr := BF3.lt
      go_upto_region 16 with fail
      obtain ⟨G, hG⟩ : ∃ E, E = v3.heap.size := ⟨_, rfl⟩
      obtain ⟨V, hV⟩ : ∃ V, V = (v3.alloc (.cells #[.string ⟨#[]⟩, .int .i64 0, .int .i64 3, .string ⟨#[]⟩, .int .i64 fn] 27)).alloc (.cells #[.string ⟨#[]⟩, .int .i64 0, .int .i64 3, .string ⟨#[]⟩, .int .i64 bn] 27) := ⟨_, rfl⟩
      have kk : Below v3.heap.size v3 V := by rw [hV]; exact ((Below.refl _ _).alloc (Nat.le_refl _) _).alloc (by simp) _
      have BG : Box5 V G (.string ⟨#[]⟩) (.int .i64 0) (.int .i64 3) (.string ⟨#[]⟩) (.int .i64 fn) := by rw [hV, hG]; exact (Box5.new _ _ _ _ _ _ _).alloc _
      have BH : Box5 V (G + 1) (.string ⟨#[]⟩) (.int .i64 0) (.int .i64 3) (.string ⟨#[]⟩) (.int .i64 bn) := by rw [hV, hG]; exact two_new _ _ _ _ _ _ _ _ _ _ _ _
      have BC4 := BC3.below kk
      have BE4 := BE3.below kk
      have BX4 := BX3.below kk
      have HK4 : Hid (Below w.heap.size w V) := HK3.out.trans (kk.mono HK3.out.size)
      clear q2 lq q4 r4 lr BC3 BE3 BX3 BD3 BF3 HK3
      rw [← hV, ← hG]
      clear hV hG kk
      obtain ⟨H, hH⟩ : ∃ E, E = G + 1 := ⟨_, rfl⟩
      rw [← hH] at BH ⊢
      clear hH hbn
      have m0 : Below V.heap.size V V.drew := (Below.refl _ V).drew
      have HMc : Hid (∀ w', Below V.heap.size V w' → (w'.cell? ⟨A, 0, none⟩ = some (.bool cb) ∧ w'.cell? ⟨A, 1, none⟩ = some (.string ct) ∧ w'.cell? ⟨A, 2, none⟩ = some (.int .i64 cn) ∧ w'.cell? ⟨AE, 0, none⟩ = some (.string ek) ∧ w'.cell? ⟨AE, 1, none⟩ = some (.int .i64 eq) ∧ w'.cell? ⟨AE, 2, none⟩ = some (.int .i64 3) ∧ w'.cell? ⟨AE, 3, none⟩ = some (.string et) ∧ w'.cell? ⟨AE, 4, none⟩ = some (.int .i64 en) ∧ w'.cell? ⟨Z, 0, none⟩ = some (.bool true) ∧ w'.cell? ⟨Z, 1, none⟩ = some (.string ct) ∧ w'.cell? ⟨Z, 2, none⟩ = some (.int .i64 xn) ∧ w'.cell? ⟨G, 0, none⟩ = some (.string ⟨#[]⟩) ∧ w'.cell? ⟨G, 1, none⟩ = some (.int .i64 0) ∧ w'.cell? ⟨G, 2, none⟩ = some (.int .i64 3) ∧ w'.cell? ⟨G, 3, none⟩ = some (.string ⟨#[]⟩) ∧ w'.cell? ⟨G, 4, none⟩ = some (.int .i64 fn) ∧ w'.cell? ⟨H, 0, none⟩ = some (.string ⟨#[]⟩) ∧ w'.cell? ⟨H, 1, none⟩ = some (.int .i64 0) ∧ w'.cell? ⟨H, 2, none⟩ = some (.int .i64 3) ∧ w'.cell? ⟨H, 3, none⟩ = some (.string ⟨#[]⟩) ∧ w'.cell? ⟨H, 4, none⟩ = some (.int .i64 bn) ∧ A < w'.heap.size ∧ AE < w'.heap.size ∧ Z < w'.heap.size ∧ G < w'.heap.size ∧ H < w'.heap.size ∧ Below V.heap.size V w')) := fun w' k => ⟨cell_later k BC4.c0, cell_later k BC4.c1, cell_later k BC4.c2, cell_later k BE4.c0, cell_later k BE4.c1, cell_later k BE4.c2, cell_later k BE4.c3, cell_later k BE4.c4, cell_later k BX4.c0, cell_later k BX4.c1, cell_later k BX4.c2, cell_later k BG.c0, cell_later k BG.c1, cell_later k BG.c2, cell_later k BG.c3, cell_later k BG.c4, cell_later k BH.c0, cell_later k BH.c1, cell_later k BH.c2, cell_later k BH.c3, cell_later k BH.c4, (Nat.lt_of_lt_of_le BC4.lt k.size), (Nat.lt_of_lt_of_le BE4.lt k.size), (Nat.lt_of_lt_of_le BX4.lt k.size), (Nat.lt_of_lt_of_le BG.lt k.size), (Nat.lt_of_lt_of_le BH.lt k.size), k⟩
      go_region_held3 (fun w' => w'.cell? ⟨A, 0, none⟩ = some (.bool cb) ∧ w'.cell? ⟨A, 1, none⟩ = some (.string ct) ∧ w'.cell? ⟨A, 2, none⟩ = some (.int .i64 cn) ∧ w'.cell? ⟨AE, 0, none⟩ = some (.string ek) ∧ w'.cell? ⟨AE, 1, none⟩ = some (.int .i64 eq) ∧ w'.cell? ⟨AE, 2, none⟩ = some (.int .i64 3) ∧ w'.cell? ⟨AE, 3, none⟩ = some (.string et) ∧ w'.cell? ⟨AE, 4, none⟩ = some (.int .i64 en) ∧ w'.cell? ⟨Z, 0, none⟩ = some (.bool true) ∧ w'.cell? ⟨Z, 1, none⟩ = some (.string ct) ∧ w'.cell? ⟨Z, 2, none⟩ = some (.int .i64 xn) ∧ w'.cell? ⟨G, 0, none⟩ = some (.string ⟨#[]⟩) ∧ w'.cell? ⟨G, 1, none⟩ = some (.int .i64 0) ∧ w'.cell? ⟨G, 2, none⟩ = some (.int .i64 3) ∧ w'.cell? ⟨G, 3, none⟩ = some (.string ⟨#[]⟩) ∧ w'.cell? ⟨G, 4, none⟩ = some (.int .i64 fn) ∧ w'.cell? ⟨H, 0, none⟩ = some (.string ⟨#[]⟩) ∧ w'.cell? ⟨H, 1, none⟩ = some (.int .i64 0) ∧ w'.cell? ⟨H, 2, none⟩ = some (.int .i64 3) ∧ w'.cell? ⟨H, 3, none⟩ = some (.string ⟨#[]⟩) ∧ w'.cell? ⟨H, 4, none⟩ = some (.int .i64 bn) ∧ A < w'.heap.size ∧ AE < w'.heap.size ∧ Z < w'.heap.size ∧ G < w'.heap.size ∧ H < w'.heap.size ∧ Below V.heap.size V w') (first | with_reducible exact HMc.out _ m5 | with_reducible exact HMc.out _ m4 | with_reducible exact HMc.out _ m3 | with_reducible exact HMc.out _ m2 | with_reducible exact HMc.out _ m1 | with_reducible exact HMc.out _ m0) (first
        | (have _ := m4; go_at_call 26; with_reducible refine (t5 _).mono ?_; rintro e v5 ⟨rfl, hv5⟩; have m5 := m4.trans (hv5.mono m4.size))
        | (have _ := m3; go_at_call 26; with_reducible refine (t1 _).mono ?_; rintro e v4 ⟨rfl, hv4⟩; have m4 := m3.trans (hv4.mono m3.size))
        | (have _ := m2; go_at_call 26; with_reducible refine (t3 _).mono ?_; rintro e v3 ⟨rfl, hv3⟩; have m3 := m2.trans (hv3.mono m2.size))
        | (have _ := m1; go_at_call 26; with_reducible refine (t2 _).mono ?_; rintro e v2 ⟨rfl, hv2⟩; have m2 := m1.trans (hv2.mono m1.size))
        | (have _ := m0; go_at_call 26; with_reducible refine (t1 _).mono ?_; rintro e v1 ⟨rfl, hv1⟩; have m1 := m0.trans (hv1.mono m0.size)))
      all_goals
        go_wp2
        go_ret
        exact ⟨rfl, HK4.out.trans (m5.mono HK4.out.size)⟩
    rw [cellN_0 d1 d2 d3] at hx
    simp only [Prod.mk.injEq] at hx
    obtain ⟨rfl, rfl, rfl⟩ := hx
    have n1 : (ed == 1) = false := by simpa using d1
    have n2 : (ed == 2) = false := by simpa using d2
    have n3 : (ed == 3) = false := by simpa using d3
    have c0 := BC3.c0
    have c1 := BC3.c1
    have c2 := BC3.c2
    have lc := BC3.lt
    have x0 := BX3.c0
    have x1 := BX3.c1
    have x2 := BX3.c2
    have lx := BX3.lt
    go_wp2
    go_ret
    exact ⟨rfl, HK3.out⟩
end Go.Proofs.Ytpaknibaeieobaa
