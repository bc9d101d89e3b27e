/-
  The walk of the law FnExactTreeWrite, out of what both sides answer.
-/
import Derived.Test.YtlmgojlffgkciaaGreatGa08
import Derived.Test.YtlmgojlffgkciaaGreatGa02
import Derived.Test.YtlmgojlffgkciaaGreatGaXMarkTX
import Derived.Test.YtlmgojlffgkciaaGreatGa07
import Derived.Test.YtlmgojlffgkciaaGreatGa03
namespace Go.Proofs.YtlmgojlffgkciaaGreat
open Go.RowKit
set_option maxRecDepth 100000
set_option maxHeartbeats 4000000
theorem LawSt.markD {w6 wi wj : World} {Y G lo hi a b nm nv ns : Nat} {y0 y1 y2 y3 g0 : Value} {am av ak : Option Addr} {M : List EntD} {V : List (List RunD)} {S : List Int} {gs bs : Nat → Nat} {es : Nat → Nat → Nat} (h : LawSt w6 wi Y y0 y1 y2 y3 G g0 lo hi am nm av nv ak ns M V S gs bs es) (hk : MarkT a b wi wj) (ha : w6.heap.size ≤ a) (hY : Y < a) (hl : b ≤ lo) (hG : b ≤ G) : LawSt w6 wj Y y0 y1 y2 y3 G g0 lo hi am nm av nv ak ns M V S gs bs es :=
  ⟨h.low.trans (hk.below ha h.low.size), h.hy.keepO (KeepO.of_mark hk) (.inl hY), h.hg.keepO (KeepO.of_mark hk) (.inr hG), h.res.keepO (KeepO.of_mark hk) hl⟩
theorem walkGTreeWrite (q1 : Int) (m1 : Option Addr) (nm1 cm1 : Nat) (v1 : Option Addr) (nv1 cv1 : Nat) (k1 : Option Addr) (ns1 cs1 : Nat) (M1 : List EntD) (V1 : List (List RunD)) (S1 : List Int) (ab : Option Addr) (nb cb : Nat) (K1 : List EntD) (q2 : Int) (M2 : List EntD) (V2 : List (List RunD)) (S2 : List Int) (ok : Bool) (w : World) (hT1 : TreeIn 0 w m1 nm1 cm1 v1 nv1 cv1 k1 ns1 cs1 M1 V1 S1) (hKK : EntsAt w ab nb cb K1)
    (hall : SumOk M1 V1 S1 → nb ≤ 1048576 → SmallE K1 → (∀ (a b c d : Nat) (w' : World), TreeIn 0 w' (some ⟨a, 0, none⟩) nm1 nm1 (some ⟨b, 0, none⟩) nv1 nv1 (some ⟨c, 0, none⟩) ns1 ns1 M1 V1 S1 → EntsAt w' (some ⟨d, 0, none⟩) nb nb K1 → Calls Tryz.prog 23 #[.agg #[.int .i64 q1, .slice (some ⟨a, 0, none⟩) nm1 nm1, .slice (some ⟨b, 0, none⟩) nv1 nv1, .slice (some ⟨c, 0, none⟩) ns1 ns1], .slice (some ⟨d, 0, none⟩) nb nb] w' (DocR q2 M2 V2 S2 ok w')) ∧ (∀ (a b c d : Nat) (w' : World), TreeIn 0 w' (some ⟨a, 0, none⟩) nm1 nm1 (some ⟨b, 0, none⟩) nv1 nv1 (some ⟨c, 0, none⟩) ns1 ns1 M1 V1 S1 → EntsAt w' (some ⟨d, 0, none⟩) nb nb K1 → Calls Tryz.prog 25 #[.agg #[.int .i64 q1, .slice (some ⟨a, 0, none⟩) nm1 nm1, .slice (some ⟨b, 0, none⟩) nv1 nv1, .slice (some ⟨c, 0, none⟩) ns1 ns1], .slice (some ⟨d, 0, none⟩) nb nb] w' (ImpR q2 M2 V2 S2 ok w')) ∧ Fits M2 V2 S2 ∧ (∀ z ∈ S2, (Lit.int .i64 z).wf = true)) :
    Calls Tryz.prog 6 #[.agg #[.int .i64 q1, .slice m1 nm1 cm1, .slice v1 nv1 cv1, .slice k1 ns1 cs1], .slice ab nb cb] w fun e w' => e = .returned (.bool true) ∧ Below w.heap.size w w' := by
  have H1 : Hid (TreeIn 0 w m1 nm1 cm1 v1 nv1 cv1 k1 ns1 cs1 M1 V1 S1) := hT1
  have HML : Hid (M1.length = nm1) := hT1.mem.1.length
  have HVL : Hid (V1.length = nv1) := hT1.levels.length
  have HSL : Hid (S1.length = ns1) := hT1.snaps.length
  have HALL : Hid (SumOk M1 V1 S1 → nb ≤ 1048576 → SmallE K1 → (∀ (a b c d : Nat) (w' : World), TreeIn 0 w' (some ⟨a, 0, none⟩) nm1 nm1 (some ⟨b, 0, none⟩) nv1 nv1 (some ⟨c, 0, none⟩) ns1 ns1 M1 V1 S1 → EntsAt w' (some ⟨d, 0, none⟩) nb nb K1 → Calls Tryz.prog 23 #[.agg #[.int .i64 q1, .slice (some ⟨a, 0, none⟩) nm1 nm1, .slice (some ⟨b, 0, none⟩) nv1 nv1, .slice (some ⟨c, 0, none⟩) ns1 ns1], .slice (some ⟨d, 0, none⟩) nb nb] w' (DocR q2 M2 V2 S2 ok w')) ∧ (∀ (a b c d : Nat) (w' : World), TreeIn 0 w' (some ⟨a, 0, none⟩) nm1 nm1 (some ⟨b, 0, none⟩) nv1 nv1 (some ⟨c, 0, none⟩) ns1 ns1 M1 V1 S1 → EntsAt w' (some ⟨d, 0, none⟩) nb nb K1 → Calls Tryz.prog 25 #[.agg #[.int .i64 q1, .slice (some ⟨a, 0, none⟩) nm1 nm1, .slice (some ⟨b, 0, none⟩) nv1 nv1, .slice (some ⟨c, 0, none⟩) ns1 ns1], .slice (some ⟨d, 0, none⟩) nb nb] w' (ImpR q2 M2 V2 S2 ok w')) ∧ Fits M2 V2 S2 ∧ (∀ z ∈ S2, (Lit.int .i64 z).wf = true)) := hall
  have HKK : Hid (EntsAt w ab nb cb K1) := hKK
  have HKL : Hid (K1.length = nb) := hKK.length
  clear hT1 hall hKK
  obtain ⟨X, hX⟩ : ∃ X, X = w.heap.size := ⟨_, rfl⟩
  obtain ⟨W, hW⟩ : ∃ W, W = w.alloc (.cells #[.int .i64 q1, .slice m1 nm1 cm1, .slice v1 nv1 cv1, .slice k1 ns1 cs1] 26) := ⟨_, rfl⟩
  have kW : Below w.heap.size w W := by rw [hW]; exact (Below.refl _ _).alloc (Nat.le_refl _) _
  have bx : At4 W X (.int .i64 q1) (.slice m1 nm1 cm1) (.slice v1 nv1 cv1) (.slice k1 ns1 cs1) := by rw [hW, hX]; exact At4.new _ _ _ _ _ _
  have K0 : Hid (Below w.heap.size w W) := kW
  have BX : Hid (At4 W X (.int .i64 q1) (.slice m1 nm1 cm1) (.slice v1 nv1 cv1) (.slice k1 ns1 cs1)) := bx
  clear kW bx
  go_enter Tryz.func6, Tryz.ntmps6
  go_wp2_with fail
  rw [← hX, ← hW]
  clear hW hX
  refine (szTree_sum _ 0 _ _ _ _ _ _ _ _ _ M1 V1 S1 _ _ (H1.out.keep K0.out) (by omega) (by omega)).mono ?_
  rintro e w4 ⟨r, rfl, hr, hb3⟩
  have K4 : Hid (Below w.heap.size w w4) := K0.out.trans (hb3.mono K0.out.size)
  have BX4 : Hid (At4 w4 X (.int .i64 q1) (.slice m1 nm1 cm1) (.slice v1 nv1 cv1) (.slice k1 ns1 cs1)) := BX.out.keep hb3
  clear hb3 BX K0
  rcases hr with rfl | ⟨hr0, hr1, hsm, hsv⟩
  · go_wp2
    go_ret
    exact ⟨rfl, K4.out⟩
  have hrI : ¬ r < 0 := by omega
  go_wp2_with fail
  refine (szEntS_sum _ _ _ K1 r _ (HKK.out.keep K4.out) hr0 (by omega)).mono ?_
  rintro e w4b ⟨r2, rfl, hr2, hb4b⟩
  have K4b : Hid (Below w.heap.size w w4b) := K4.out.trans (hb4b.mono K4.out.size)
  have BX4b : Hid (At4 w4b X (.int .i64 q1) (.slice m1 nm1 cm1) (.slice v1 nv1 cv1) (.slice k1 ns1 cs1)) := BX4.out.keep hb4b
  clear hb4b BX4 K4
  rcases hr2 with rfl | ⟨hr20, hr21, hsk⟩
  · go_wp2
    go_ret
    exact ⟨rfl, K4b.out⟩
  have hnbb : nb ≤ 1048576 := by have := HKL.out; omega
  have hr2I : ¬ r2 < 0 := by omega
  have HSUM : Hid (M1.length + (szV V1 + V1.length) + S1.length ≤ 1048576) := by show _ ≤ _; omega
  obtain ⟨CS0, CI0, HF0, HWF0⟩ := HALL.out ⟨HSUM.out, hsm, hsv⟩ hnbb hsk
  have CS : Hid (∀ (a b c d : Nat) (w' : World), TreeIn 0 w' (some ⟨a, 0, none⟩) nm1 nm1 (some ⟨b, 0, none⟩) nv1 nv1 (some ⟨c, 0, none⟩) ns1 ns1 M1 V1 S1 → EntsAt w' (some ⟨d, 0, none⟩) nb nb K1 → Calls Tryz.prog 23 #[.agg #[.int .i64 q1, .slice (some ⟨a, 0, none⟩) nm1 nm1, .slice (some ⟨b, 0, none⟩) nv1 nv1, .slice (some ⟨c, 0, none⟩) ns1 ns1], .slice (some ⟨d, 0, none⟩) nb nb] w' (DocR q2 M2 V2 S2 ok w')) := CS0
  have CI : Hid (∀ (a b c d : Nat) (w' : World), TreeIn 0 w' (some ⟨a, 0, none⟩) nm1 nm1 (some ⟨b, 0, none⟩) nv1 nv1 (some ⟨c, 0, none⟩) ns1 ns1 M1 V1 S1 → EntsAt w' (some ⟨d, 0, none⟩) nb nb K1 → Calls Tryz.prog 25 #[.agg #[.int .i64 q1, .slice (some ⟨a, 0, none⟩) nm1 nm1, .slice (some ⟨b, 0, none⟩) nv1 nv1, .slice (some ⟨c, 0, none⟩) ns1 ns1], .slice (some ⟨d, 0, none⟩) nb nb] w' (ImpR q2 M2 V2 S2 ok w')) := CI0
  have HF : Hid (Fits M2 V2 S2) := HF0
  have HWF : Hid (∀ z ∈ S2, (Lit.int .i64 z).wf = true) := HWF0
  have SM1 : Hid (SmallT M1 V1 S1) := small_of_sum HSUM.out
  clear hsm hsv hsk hr1 CS0 CI0 HF0 HWF0 HALL
  have x0 := BX4b.out.c0
  have x1 := BX4b.out.c1
  have x2 := BX4b.out.c2
  have x3 := BX4b.out.c3
  have xz := BX4b.out.lt
  go_wp2_with fail
  clear x0 x1 x2 x3 xz
  refine (toTree_any q1 0 _ _ _ _ _ _ _ _ _ M1 V1 S1 _ (H1.out.keep K4b.out) SM1.out).mono ?_
  rintro e w5 ⟨a5, b5, c5, rfl, hT5, hb5⟩
  have K5 : Hid (Below w.heap.size w w5) := K4b.out.trans (hb5.mono K4b.out.size)
  have BX5 : Hid (At4 w5 X (.int .i64 q1) (.slice m1 nm1 cm1) (.slice v1 nv1 cv1) (.slice k1 ns1 cs1)) := BX4b.out.keep hb5
  have T5 : Hid (TreeIn 0 w5 (some ⟨a5, 0, none⟩) nm1 nm1 (some ⟨b5, 0, none⟩) nv1 nv1 (some ⟨c5, 0, none⟩) ns1 ns1 M1 V1 S1) := hT5.lowR (Nat.zero_le _)
  clear hb5 hT5 BX4b K4b
  go_wp2_with fail
  refine (toEntS_own _ _ _ K1 _ (HKK.out.keep K5.out) hnbb).mono ?_
  rintro e w5b ⟨rfl, hE5, _, hb5b⟩
  obtain ⟨d5, hd5⟩ : ∃ d5, d5 = w5.heap.size := ⟨_, rfl⟩
  rw [← hd5] at hE5 ⊢
  have K5b : Hid (Below w.heap.size w w5b) := K5.out.trans (hb5b.mono K5.out.size)
  have BX5b : Hid (At4 w5b X (.int .i64 q1) (.slice m1 nm1 cm1) (.slice v1 nv1 cv1) (.slice k1 ns1 cs1)) := BX5.out.keep hb5b
  have T5b : Hid (TreeIn 0 w5b (some ⟨a5, 0, none⟩) nm1 nm1 (some ⟨b5, 0, none⟩) nv1 nv1 (some ⟨c5, 0, none⟩) ns1 ns1 M1 V1 S1) := T5.out.keep hb5b
  have E5 : Hid (EntsAt w5b (some ⟨d5, 0, none⟩) nb nb K1) := hE5.entsAt
  clear hb5b hE5 BX5 K5 T5 hd5
  go_wp2_with fail
  refine (CS.out _ _ _ _ _ T5b.out E5.out).mono ?_
  rintro e w55 ⟨dm, dn, dcm, dv, dnv, dcv, dk, dns, dcs, rfl, hD, hb55⟩
  obtain ⟨P, hP⟩ : ∃ P, P = w55.heap.size := ⟨_, rfl⟩
  obtain ⟨w6, hw6⟩ : ∃ w6, w6 = w55.alloc (.cells #[.int .i64 q2, .slice dm dn dcm, .slice dv dnv dcv, .slice dk dns dcs] 31) := ⟨_, rfl⟩
  have k6 : Below w55.heap.size w55 w6 := by rw [hw6]; exact (Below.refl _ _).alloc (Nat.le_refl _) _
  have K6 : Hid (Below w.heap.size w w6) := (K5b.out.trans (hb55.mono K5b.out.size)).trans (k6.mono (Nat.le_trans K5b.out.size hb55.size))
  have BX6 : Hid (At4 w6 X (.int .i64 q1) (.slice m1 nm1 cm1) (.slice v1 nv1 cv1) (.slice k1 ns1 cs1)) := (BX5b.out.keep hb55).keep k6
  have BP6 : Hid (At4 w6 P (.int .i64 q2) (.slice dm dn dcm) (.slice dv dnv dcv) (.slice dk dns dcs)) := by rw [hw6, hP]; exact At4.new _ _ _ _ _ _
  have D6 : Hid (TreeIn 0 w6 dm dn dcm dv dnv dcv dk dns dcs M2 V2 S2) := hD.keep k6
  clear hb55 k6 hD BX5b K5b T5b E5
  go_upto_region 9 with fail
  rw [← hw6]
  try rw [← hP]
  clear hw6 hP
  have x0 := BX6.out.c0
  have x1 := BX6.out.c1
  have x2 := BX6.out.c2
  have x3 := BX6.out.c3
  have xz := BX6.out.lt
  go_wp2_with fail
  clear x0 x1 x2 x3 xz
  refine (toTree_bl q1 0 _ _ _ _ _ _ _ _ _ M1 V1 S1 _ (H1.out.keep K6.out) SM1.out).mono ?_
  rintro e w8 ⟨a8, b8, c8, rfl, hT8, hB8, hb8⟩
  obtain ⟨Y, hY⟩ : ∃ Y, Y = w8.heap.size := ⟨_, rfl⟩
  obtain ⟨l6, hl6⟩ : ∃ l6, l6 = w6.heap.size := ⟨_, rfl⟩
  obtain ⟨W8, hW8⟩ : ∃ W8, W8 = w8.alloc (.cells #[.int .i64 q1, .slice (some ⟨a8, 0, none⟩) nm1 nm1, .slice (some ⟨b8, 0, none⟩) nv1 nv1, .slice (some ⟨c8, 0, none⟩) ns1 ns1] 31) := ⟨_, rfl⟩
  have k8 : Below w8.heap.size w8 W8 := by rw [hW8]; exact (Below.refl _ _).alloc (Nat.le_refl _) _
  have L8 : Hid (Below w6.heap.size w6 W8) := hb8.trans (k8.mono hb8.size)
  have T8 : Hid (TreeIn 0 W8 (some ⟨a8, 0, none⟩) nm1 nm1 (some ⟨b8, 0, none⟩) nv1 nv1 (some ⟨c8, 0, none⟩) ns1 ns1 M1 V1 S1) := (hT8.lowR (Nat.zero_le _)).keep k8
  have B8 : Hid (TreeBl l6 Y W8 a8 nm1 b8 V1 c8 ns1) := by rw [hl6, hY]; exact hB8.mark (MarkT.of_below (lo := 0) (hi := 0) k8)
  have BY8 : Hid (At4 W8 Y (.int .i64 q1) (.slice (some ⟨a8, 0, none⟩) nm1 nm1) (.slice (some ⟨b8, 0, none⟩) nv1 nv1) (.slice (some ⟨c8, 0, none⟩) ns1 ns1)) := by rw [hW8, hY]; exact At4.new _ _ _ _ _ _
  have HL6 : Hid (w6.heap.size ≤ l6 ∧ w6.heap.size ≤ Y) := by rw [hl6, hY]; exact ⟨Nat.le_refl _, hb8.size⟩
  clear hb8 hT8 hB8 k8 hl6
  go_wp2_with fail
  rw [← hW8]
  try rw [← hY]
  clear hW8 hY
  refine (toEntS_own _ _ _ K1 _ (HKK.out.keep (K6.out.trans (L8.out.mono K6.out.size))) hnbb).mono ?_
  rintro e w9 ⟨rfl, hE9, _, hb9⟩
  obtain ⟨d9, hd9⟩ : ∃ d9, d9 = W8.heap.size := ⟨_, rfl⟩
  rw [← hd9] at hE9 ⊢
  have HYD : Hid (Y < d9) := by rw [hd9]; exact BY8.out.lt
  have L9 : Hid (Below w6.heap.size w6 w9) := L8.out.trans (hb9.mono L8.out.size)
  have T9 : Hid (TreeIn 0 w9 (some ⟨a8, 0, none⟩) nm1 nm1 (some ⟨b8, 0, none⟩) nv1 nv1 (some ⟨c8, 0, none⟩) ns1 ns1 M1 V1 S1) := T8.out.keep hb9
  have B9 : Hid (TreeBl l6 Y w9 a8 nm1 b8 V1 c8 ns1) := B8.out.mark (MarkT.of_below (lo := 0) (hi := 0) hb9)
  have BY9 : Hid (At4 w9 Y (.int .i64 q1) (.slice (some ⟨a8, 0, none⟩) nm1 nm1) (.slice (some ⟨b8, 0, none⟩) nv1 nv1) (.slice (some ⟨c8, 0, none⟩) ns1 ns1)) := BY8.out.keep hb9
  have E9 : Hid (OwnE w9 d9 d9 nb nb K1) := hE9
  clear hb9 hE9 hd9 L8 T8 B8 BY8
  have y0 := BY9.out.c0
  have y1 := BY9.out.c1
  have y2 := BY9.out.c2
  have y3 := BY9.out.c3
  have yz := BY9.out.lt
  go_wp2_with fail
  clear y0 y1 y2 y3 yz
  refine (CI.out _ _ _ _ _ T9.out E9.out.entsAt).mono ?_
  rintro e w11 ⟨ag, ng, av, nv, ak, ns, gs, bs, es, rfl, hR11, hb11⟩
  obtain ⟨lo, hlo⟩ : ∃ lo, lo = w9.heap.size := ⟨_, rfl⟩
  obtain ⟨hi, hhi⟩ : ∃ hi, hi = w11.heap.size := ⟨_, rfl⟩
  obtain ⟨G, hG⟩ : ∃ G, G = w11.heap.size := ⟨_, rfl⟩
  obtain ⟨w12, hw12⟩ : ∃ w12, w12 = w11.alloc (.cells #[.int .i64 q2, .slice ag ng ng, .slice av nv nv, .slice ak ns ns] 31) := ⟨_, rfl⟩
  have k12 : Below w11.heap.size w11 w12 := by rw [hw12]; exact (Below.refl _ _).alloc (Nat.le_refl _) _
  have hY8 := BY9.out.lt
  have HYL : Hid (Y < lo ∧ Y ≤ G ∧ hi ≤ G ∧ w6.heap.size ≤ lo ∧ hi ≤ w12.heap.size) := by
    have h1 := hb11.size
    have h2 := L9.out.size
    have h3 := k12.size
    show _ ∧ _ ∧ _ ∧ _ ∧ _
    omega
  have hres : ResT lo hi w12 ag ng av nv ak ns M2 V2 S2 gs bs es := by rw [hlo, hhi]; exact hR11.below k12
  have kall : Below w9.heap.size w9 w12 := hb11.trans (k12.mono hb11.size)
  have hgat : At4 w12 G (.int .i64 q2) (.slice ag ng ng) (.slice av nv nv) (.slice ak ns ns) := by rw [hw12, hG]; exact At4.new _ _ _ _ _ _
  have ST12 : Hid (LawSt w6 w12 Y (.int .i64 q1) (.slice (some ⟨a8, 0, none⟩) nm1 nm1) (.slice (some ⟨b8, 0, none⟩) nv1 nv1) (.slice (some ⟨c8, 0, none⟩) ns1 ns1) G (.int .i64 q2) lo hi ag ng av nv ak ns M2 V2 S2 gs bs es) := ⟨L9.out.trans (kall.mono L9.out.size), BY9.out.keep kall, hgat, hres⟩
  have T12 : Hid (TreeIn 0 w12 (some ⟨a8, 0, none⟩) nm1 nm1 (some ⟨b8, 0, none⟩) nv1 nv1 (some ⟨c8, 0, none⟩) ns1 ns1 M1 V1 S1) := T9.out.keep kall
  have B12 : Hid (TreeBl l6 Y w12 a8 nm1 b8 V1 c8 ns1) := B9.out.mark (MarkT.of_below (lo := 0) (hi := 0) kall)
  have E12 : Hid (OwnE w12 d9 d9 nb nb K1) := E9.out.below kall
  have HDL : Hid (d9 + 1 ≤ lo ∧ d9 + 1 ≤ G) := by
    have h1 := E9.out.lt.2
    have h2 := hb11.size
    show _ ∧ _
    omega
  obtain ⟨rfl, rfl, rfl⟩ : dn = ng ∧ dnv = nv ∧ dns = ns := by
    have h1 := hres.lens
    have h2 := D6.out.mem.1.length
    have h3 := D6.out.levels.length
    have h4 := D6.out.snaps.length
    omega
  clear hb11 hR11 k12 kall hres hgat L9 T9 B9 BY9 E9 hlo hhi hY8
  go_upto_region 12 with fail
  rw [← hw12]
  try rw [← hG]
  clear hw12 hG
  have bp12 := BP6.out.keep ST12.out.low
  have y0 := ST12.out.hg.c0
  have y1 := ST12.out.hg.c1
  have y2 := ST12.out.hg.c2
  have y3 := ST12.out.hg.c3
  have yz := ST12.out.hg.lt
  have p0 := bp12.c0
  have p1 := bp12.c1
  have p2 := bp12.c2
  have p3 := bp12.c3
  have pz := bp12.lt
  go_wp2_with fail
  clear y0 y1 y2 y3 yz p0 p1 p2 p3 pz bp12
  refine (eqTree_opt q2 0 0 _ _ _ _ _ _ _ _ _ _ _ _ _ _ _ M2 V2 S2 _ (ST12.out.res.treeIn HWF.out) (D6.out.keep ST12.out.low)).mono ?_
  rintro e w13 ⟨rfl, hb13⟩
  have ST13 : Hid (LawSt w6 w13 Y (.int .i64 q1) (.slice (some ⟨a8, 0, none⟩) nm1 nm1) (.slice (some ⟨b8, 0, none⟩) nv1 nv1) (.slice (some ⟨c8, 0, none⟩) ns1 ns1) G (.int .i64 q2) lo hi ag dn av dnv ak dns M2 V2 S2 gs bs es) := ST12.out.below hb13
  have T13 : Hid (TreeIn 0 w13 (some ⟨a8, 0, none⟩) nm1 nm1 (some ⟨b8, 0, none⟩) nv1 nv1 (some ⟨c8, 0, none⟩) ns1 ns1 M1 V1 S1) := T12.out.keep hb13
  have B13 : Hid (TreeBl l6 Y w13 a8 nm1 b8 V1 c8 ns1) := B12.out.mark (MarkT.of_below (lo := 0) (hi := 0) hb13)
  have E13 : Hid (OwnE w13 d9 d9 nb nb K1) := E12.out.below hb13
  clear hb13 ST12 T12 B12 E12
  go_wp2_with fail
  have k0 : Below w13.heap.size w13 w13.drew := (Below.refl _ w13).drew
  have bx13 := BX6.out.keep ST13.out.low
  have HMK : Hid (∀ w', Below w13.heap.size w13 w' → (fun w' => w'.cell? ⟨Y, 0, none⟩ = some (.int .i64 q1) ∧ w'.cell? ⟨Y, 1, none⟩ = some (.slice (some ⟨a8, 0, none⟩) nm1 nm1) ∧ w'.cell? ⟨Y, 2, none⟩ = some (.slice (some ⟨b8, 0, none⟩) nv1 nv1) ∧ w'.cell? ⟨Y, 3, none⟩ = some (.slice (some ⟨c8, 0, none⟩) ns1 ns1) ∧ Y < w'.heap.size ∧ w'.cell? ⟨X, 0, none⟩ = some (.int .i64 q1) ∧ w'.cell? ⟨X, 1, none⟩ = some (.slice m1 nm1 cm1) ∧ w'.cell? ⟨X, 2, none⟩ = some (.slice v1 nv1 cv1) ∧ w'.cell? ⟨X, 3, none⟩ = some (.slice k1 ns1 cs1) ∧ X < w'.heap.size) w') := fun w' kk => ⟨cell_later kk ST13.out.hy.c0, cell_later kk ST13.out.hy.c1, cell_later kk ST13.out.hy.c2, cell_later kk ST13.out.hy.c3, Nat.lt_of_lt_of_le ST13.out.hy.lt kk.size, cell_later kk bx13.c0, cell_later kk bx13.c1, cell_later kk bx13.c2, cell_later kk bx13.c3, Nat.lt_of_lt_of_le bx13.lt kk.size⟩
  refine wp_region_held_drew (S := (fun w' => w'.cell? ⟨Y, 0, none⟩ = some (.int .i64 q1) ∧ w'.cell? ⟨Y, 1, none⟩ = some (.slice (some ⟨a8, 0, none⟩) nm1 nm1) ∧ w'.cell? ⟨Y, 2, none⟩ = some (.slice (some ⟨b8, 0, none⟩) nv1 nv1) ∧ w'.cell? ⟨Y, 3, none⟩ = some (.slice (some ⟨c8, 0, none⟩) ns1 ns1) ∧ Y < w'.heap.size ∧ w'.cell? ⟨X, 0, none⟩ = some (.int .i64 q1) ∧ w'.cell? ⟨X, 1, none⟩ = some (.slice m1 nm1 cm1) ∧ w'.cell? ⟨X, 2, none⟩ = some (.slice v1 nv1 cv1) ∧ w'.cell? ⟨X, 3, none⟩ = some (.slice k1 ns1 cs1) ∧ X < w'.heap.size)) (by kernel_rfl) (HMK.out _ k0) (fun hHeld => ?_)
  refine tkL 0 hHeld ?_; try go_frame
  refine tkL 1 hHeld ?_; try go_frame
  refine wpAnyH_ready (rs := [2]) (by kernel_rfl) (by simp) ?_
  refine consL rfl (fun K hK => ?_) AllReadyH.nil
  go_simp
  refine (toTree_any q1 0 m1 v1 k1 nm1 cm1 nv1 cv1 ns1 cs1 M1 V1 S1 _ (H1.out.keep ((K6.out.trans (ST13.out.low.mono K6.out.size)).trans (k0.mono (Nat.le_trans K6.out.size ST13.out.low.size)))) SM1.out).mono ?_
  rintro e w14 ⟨a14, b14, c14, rfl, hT14, hb14⟩
  have k1' : Below w13.heap.size w13 w14 := k0.trans (hb14.mono k0.size)
  have T14 : Hid (TreeIn 0 w14 (some ⟨a14, 0, none⟩) nm1 nm1 (some ⟨b14, 0, none⟩) nv1 nv1 (some ⟨c14, 0, none⟩) ns1 ns1 M1 V1 S1) := hT14.lowR (Nat.zero_le _)
  clear hT14
  go_wp2_with fail
  refine hK.out _ _ (HMK.out _ k1') (fun hHeld => ?_)
  clear hK K
  try go_frame
  refine wpAnyH_ready (rs := [3]) (by kernel_rfl) (by simp) ?_
  refine consL rfl (fun K hK => ?_) AllReadyH.nil
  go_simp
  refine (eqTree_opt q1 0 0 _ _ _ _ _ _ _ _ _ _ _ _ _ _ _ M1 V1 S1 _ (T13.out.keep k1') T14.out).mono ?_
  rintro e w15 ⟨rfl, b15⟩
  have k2 : Below w13.heap.size w13 w15 := k1'.trans (b15.mono k1'.size)
  go_wp2_with fail
  refine hK.out _ _ (HMK.out _ k2) (fun hHeld => ?_)
  clear hK K
  try go_frame
  refine tkL 4 hHeld ?_; try go_frame
  refine wpAnyH_done (by kernel_rfl) ?_ _
  have ST15 : Hid (LawSt w6 w15 Y (.int .i64 q1) (.slice (some ⟨a8, 0, none⟩) nm1 nm1) (.slice (some ⟨b8, 0, none⟩) nv1 nv1) (.slice (some ⟨c8, 0, none⟩) ns1 ns1) G (.int .i64 q2) lo hi ag dn av dnv ak dns M2 V2 S2 gs bs es) := ST13.out.below k2
  have B15 : Hid (TreeBl l6 Y w15 a8 nm1 b8 V1 c8 ns1) := B13.out.mark (MarkT.of_below (lo := 0) (hi := 0) k2)
  have E15 : Hid (OwnE w15 d9 d9 nb nb K1) := E13.out.below k2
  clear k0 k1' k2 HMK ST13 T13 B13 E13 hHeld hb14 b15 T14 bx13
  go_wp2_with fail
  refine (toEntS_own _ _ _ K1 _ (HKK.out.keep (K6.out.trans (ST15.out.low.mono K6.out.size))) hnbb).mono ?_
  rintro e w15b ⟨rfl, hE15, _, hb15b⟩
  obtain ⟨d15, hd15⟩ : ∃ d15, d15 = w15.heap.size := ⟨_, rfl⟩
  rw [← hd15] at hE15 ⊢
  have HE15 : Hid (EntsAt w15b (some ⟨d15, 0, none⟩) nb nb K1) := hE15.entsAt
  have ST15b : Hid (LawSt w6 w15b Y (.int .i64 q1) (.slice (some ⟨a8, 0, none⟩) nm1 nm1) (.slice (some ⟨b8, 0, none⟩) nv1 nv1) (.slice (some ⟨c8, 0, none⟩) ns1 ns1) G (.int .i64 q2) lo hi ag dn av dnv ak dns M2 V2 S2 gs bs es) := ST15.out.below hb15b
  have B15b : Hid (TreeBl l6 Y w15b a8 nm1 b8 V1 c8 ns1) := B15.out.mark (MarkT.of_below (lo := 0) (hi := 0) hb15b)
  have E15b : Hid (OwnE w15b d9 d9 nb nb K1) := E15.out.below hb15b
  clear hE15 hd15 hb15b ST15 B15 E15
  go_wp2_with fail
  refine (eqEntS_opt _ _ nb _ _ K1 _ E15b.out.entsAt HE15.out).mono ?_
  rintro e w15c ⟨rfl, hb15c⟩
  have ST15c : Hid (LawSt w6 w15c Y (.int .i64 q1) (.slice (some ⟨a8, 0, none⟩) nm1 nm1) (.slice (some ⟨b8, 0, none⟩) nv1 nv1) (.slice (some ⟨c8, 0, none⟩) ns1 ns1) G (.int .i64 q2) lo hi ag dn av dnv ak dns M2 V2 S2 gs bs es) := ST15b.out.below hb15c
  have B15c : Hid (TreeBl l6 Y w15c a8 nm1 b8 V1 c8 ns1) := B15b.out.mark (MarkT.of_below (lo := 0) (hi := 0) hb15c)
  have E15c : Hid (OwnE w15c d9 d9 nb nb K1) := E15b.out.below hb15c
  clear hb15c ST15b B15b E15b HE15
  have x0 := ST15c.out.hy.c0
  have x1 := ST15c.out.hy.c1
  have x2 := ST15c.out.hy.c2
  have x3 := ST15c.out.hy.c3
  have xz := ST15c.out.hy.lt
  have CMK : Hid (Calls Tryz.prog 15 #[.agg #[.int .i64 q1, .slice (some ⟨a8, 0, none⟩) nm1 nm1, .slice (some ⟨b8, 0, none⟩) nv1 nv1, .slice (some ⟨c8, 0, none⟩) ns1 ns1], .int .i64 1] w15c fun e w' => (∃ r : Nat, r = 1 + 5 * nm1 + mkV V1 + ns1 ∧ e = .returned (.int .i64 (r : Int))) ∧ MarkT l6 Y w15c w') := by
    have h1 := SM1.out
    have h2 := HML.out
    have h3 := HSL.out
    have h4 := mkV_sz V1
    have h5 := HSUM.out
    exact markTree_num q1 l6 Y a8 nm1 b8 nv1 c8 ns1 1 V1 w15c B15c.out HVL.out (by have := h1.1; omega) h1.2.1 (by have := h1.2.2; omega) (Nat.le_of_lt ST15c.out.hy.lt) (by omega) (by omega)
  go_wp2_with fail
  clear x0 x1 x2 x3 xz
  refine CMK.out.mono ?_
  rintro e w16 ⟨⟨kv, hkvE, rfl⟩, hM16⟩
  have ST16 : Hid (LawSt w6 w16 Y (.int .i64 q1) (.slice (some ⟨a8, 0, none⟩) nm1 nm1) (.slice (some ⟨b8, 0, none⟩) nv1 nv1) (.slice (some ⟨c8, 0, none⟩) ns1 ns1) G (.int .i64 q2) lo hi ag dn av dnv ak dns M2 V2 S2 gs bs es) := by
    have h := HYL.out
    exact ST15c.out.markX hM16 HL6.out.1 (Nat.le_refl _) (by omega) h.2.1
  have E16 : Hid (OwnE w16 d9 d9 nb nb K1) := hM16.ownE E15c.out (.inr (by have := HYD.out; omega))
  clear hM16 ST15c B15c CMK E15c
  have hkb : 1 ≤ kv ∧ kv + 5 * nb ≤ 1000000000 := by
    have h2 := HML.out
    have h3 := HSL.out
    have h4 := mkV_sz V1
    have h5 := HSUM.out
    omega
  have CME : Hid (Calls Tryz.prog 27 #[.slice (some ⟨d9, 0, none⟩) nb nb, .int .i64 (kv : Int)] w16 fun e w' => e = .returned (.int .i64 ((kv + 5 * nb : Nat) : Int)) ∧ MarkT d9 (d9 + 1) w16 w') :=
    markEnts_bl d9 (d9 + 1) d9 nb kv w16 ⟨Nat.le_refl _, by omega, blockOf_row E16.out.owns⟩ hnbb hkb.1 hkb.2
  clear hkvE
  go_wp2_with fail
  refine CME.out.mono ?_
  rintro e w16b ⟨rfl, hM16b⟩
  have ST16b : Hid (LawSt w6 w16b Y (.int .i64 q1) (.slice (some ⟨a8, 0, none⟩) nm1 nm1) (.slice (some ⟨b8, 0, none⟩) nv1 nv1) (.slice (some ⟨c8, 0, none⟩) ns1 ns1) G (.int .i64 q2) lo hi ag dn av dnv ak dns M2 V2 S2 gs bs es) := by
    have h1 := HYD.out
    have h2 := HDL.out
    have h3 := HL6.out
    exact ST16.out.markD hM16b (by omega) h1 h2.1 h2.2
  clear hM16b ST16 E16 CME
  obtain ⟨kw, hkw⟩ : ∃ kw : Nat, kw = kv + 5 * nb := ⟨_, rfl⟩
  rw [← hkw]
  clear hkw
  have hkv : ¬ (kw : Int) < 0 := by omega
  have bp16 := BP6.out.keep ST16b.out.low
  have y0 := ST16b.out.hg.c0
  have y1 := ST16b.out.hg.c1
  have y2 := ST16b.out.hg.c2
  have y3 := ST16b.out.hg.c3
  have yz := ST16b.out.hg.lt
  have p0 := bp16.c0
  have p1 := bp16.c1
  have p2 := bp16.c2
  have p3 := bp16.c3
  have pz := bp16.lt
  go_wp2_with fail
  clear y0 y1 y2 y3 yz p0 p1 p2 p3 pz bp16
  refine (eqTree_opt q2 0 0 _ _ _ _ _ _ _ _ _ _ _ _ _ _ _ M2 V2 S2 _ (ST16b.out.res.treeIn HWF.out) (D6.out.keep ST16b.out.low)).mono ?_
  rintro e w17 ⟨rfl, hb17⟩
  have ST17 : Hid (LawSt w6 w17 Y (.int .i64 q1) (.slice (some ⟨a8, 0, none⟩) nm1 nm1) (.slice (some ⟨b8, 0, none⟩) nv1 nv1) (.slice (some ⟨c8, 0, none⟩) ns1 ns1) G (.int .i64 q2) lo hi ag dn av dnv ak dns M2 V2 S2 gs bs es) := ST16b.out.below hb17
  clear ST16b hb17
  have y0 := ST17.out.hg.c0
  have y1 := ST17.out.hg.c1
  have y2 := ST17.out.hg.c2
  have y3 := ST17.out.hg.c3
  have yz := ST17.out.hg.lt
  go_wp2_with fail
  clear y0 y1 y2 y3 yz
  obtain ⟨MM, hMM⟩ : ∃ MM, MM = markL 1 dn := ⟨_, rfl⟩
  obtain ⟨VM, hVM⟩ : ∃ VM, VM = mrkV (1 + 5 * dn) V2 := ⟨_, rfl⟩
  obtain ⟨SM, hSM⟩ : ∃ SM, SM = mrkS (1 + 5 * dn + mkV V2) dns := ⟨_, rfl⟩
  obtain ⟨mv, hmv⟩ : ∃ mv : Int, mv = ((1 + 5 * dn + mkV V2 + dns : Nat) : Int) := ⟨_, rfl⟩
  have hm0 : ¬ mv < 0 := by omega
  have CMG : Hid (Calls Tryz.prog 15 #[.agg #[.int .i64 q2, .slice ag dn dn, .slice av dnv dnv, .slice ak dns dns], .int .i64 1] w17 fun e w' => e = .returned (.int .i64 mv) ∧ ResT lo hi w' ag dn av dnv ak dns MM VM SM gs bs es ∧ KeepO lo hi w17 w') := by
    rw [hMM, hVM, hSM, hmv]
    exact markRes q2 lo hi dn dnv dns ag av ak M2 V2 S2 gs bs es w17 ST17.out.res (Nat.le_trans HYL.out.2.2.1 (Nat.le_of_lt ST17.out.hg.lt)) HF.out
  have CH : Hid (∀ w', ResT lo hi w' ag dn av dnv ak dns MM VM SM gs bs es → Calls Tryz.prog 16 #[.agg #[.int .i64 q2, .slice ag dn dn, .slice av dnv dnv, .slice ak dns dns], .int .i64 1] w' fun e w'' => e = .returned (.int .i64 mv) ∧ Below w'.heap.size w' w'') := by
    rw [hMM, hVM, hSM, hmv]
    exact fun w' h => heldRes q2 lo hi dn dnv dns ag av ak V2 gs bs es w' h M2 S2 ST17.out.res.lens.1 ST17.out.res.lens.2.2 HF.out
  clear hMM hVM hSM hmv
  refine CMG.out.mono ?_
  rintro e w18 ⟨rfl, hR18, hk18⟩
  have ST18 : Hid (LawSt w6 w18 Y (.int .i64 q1) (.slice (some ⟨a8, 0, none⟩) nm1 nm1) (.slice (some ⟨b8, 0, none⟩) nv1 nv1) (.slice (some ⟨c8, 0, none⟩) ns1 ns1) G (.int .i64 q2) lo hi ag dn av dnv ak dns MM VM SM gs bs es) := by
    have h := HYL.out
    exact ST17.out.markG hk18 hR18 h.2.2.2.1 h.1 h.2.2.1
  clear ST17 hR18 hk18 CMG
  have y0 := ST18.out.hg.c0
  have y1 := ST18.out.hg.c1
  have y2 := ST18.out.hg.c2
  have y3 := ST18.out.hg.c3
  have yz := ST18.out.hg.lt
  go_wp2_with fail
  clear y0 y1 y2 y3 yz
  refine (CH.out _ ST18.out.res).mono ?_
  rintro e w19 ⟨rfl, hb19⟩
  have ST19 : Hid (LawSt w6 w19 Y (.int .i64 q1) (.slice (some ⟨a8, 0, none⟩) nm1 nm1) (.slice (some ⟨b8, 0, none⟩) nv1 nv1) (.slice (some ⟨c8, 0, none⟩) ns1 ns1) G (.int .i64 q2) lo hi ag dn av dnv ak dns MM VM SM gs bs es) := ST18.out.below hb19
  clear ST18 hb19
  have bx19 := BX6.out.keep ST19.out.low
  have x0 := bx19.c0
  have x1 := bx19.c1
  have x2 := bx19.c2
  have x3 := bx19.c3
  have xz := bx19.lt
  go_wp2_with fail
  clear x0 x1 x2 x3 xz bx19
  refine (toTree_any q1 0 _ _ _ _ _ _ _ _ _ M1 V1 S1 _ (H1.out.keep (K6.out.trans (ST19.out.low.mono K6.out.size))) SM1.out).mono ?_
  rintro e w20 ⟨a20, b20, c20, rfl, hT20, hb20⟩
  have ST20 : Hid (LawSt w6 w20 Y (.int .i64 q1) (.slice (some ⟨a8, 0, none⟩) nm1 nm1) (.slice (some ⟨b8, 0, none⟩) nv1 nv1) (.slice (some ⟨c8, 0, none⟩) ns1 ns1) G (.int .i64 q2) lo hi ag dn av dnv ak dns MM VM SM gs bs es) := ST19.out.below hb20
  have T20 : Hid (TreeIn 0 w20 (some ⟨a20, 0, none⟩) nm1 nm1 (some ⟨b20, 0, none⟩) nv1 nv1 (some ⟨c20, 0, none⟩) ns1 ns1 M1 V1 S1) := hT20.lowR (Nat.zero_le _)
  clear ST19 hb20 hT20
  go_wp2_with fail
  refine (toEntS_own _ _ _ K1 _ (HKK.out.keep (K6.out.trans (ST20.out.low.mono K6.out.size))) hnbb).mono ?_
  rintro e w20b ⟨rfl, hE20, _, hb20b⟩
  obtain ⟨d20, hd20⟩ : ∃ d20, d20 = w20.heap.size := ⟨_, rfl⟩
  rw [← hd20] at hE20 ⊢
  have E20 : Hid (EntsAt w20b (some ⟨d20, 0, none⟩) nb nb K1) := hE20.entsAt
  have ST20b : Hid (LawSt w6 w20b Y (.int .i64 q1) (.slice (some ⟨a8, 0, none⟩) nm1 nm1) (.slice (some ⟨b8, 0, none⟩) nv1 nv1) (.slice (some ⟨c8, 0, none⟩) ns1 ns1) G (.int .i64 q2) lo hi ag dn av dnv ak dns MM VM SM gs bs es) := ST20.out.below hb20b
  have T20b : Hid (TreeIn 0 w20b (some ⟨a20, 0, none⟩) nm1 nm1 (some ⟨b20, 0, none⟩) nv1 nv1 (some ⟨c20, 0, none⟩) ns1 ns1 M1 V1 S1) := T20.out.keep hb20b
  clear hE20 hd20 hb20b ST20 T20
  go_wp2_with fail
  refine (CI.out _ _ _ _ _ T20b.out E20.out).mono ?_
  rintro e w21 ⟨ah, nh, avh, nvh, akh, nsh, gsh, bsh, esh, rfl, hR21, hb21⟩
  obtain ⟨Z, hZ⟩ : ∃ Z, Z = w21.heap.size := ⟨_, rfl⟩
  obtain ⟨w22, hw22⟩ : ∃ w22, w22 = w21.alloc (.cells #[.int .i64 q2, .slice ah nh nh, .slice avh nvh nvh, .slice akh nsh nsh] 31) := ⟨_, rfl⟩
  have k22 : Below w21.heap.size w21 w22 := by rw [hw22]; exact (Below.refl _ _).alloc (Nat.le_refl _) _
  have ST22 : Hid (LawSt w6 w22 Y (.int .i64 q1) (.slice (some ⟨a8, 0, none⟩) nm1 nm1) (.slice (some ⟨b8, 0, none⟩) nv1 nv1) (.slice (some ⟨c8, 0, none⟩) ns1 ns1) G (.int .i64 q2) lo hi ag dn av dnv ak dns MM VM SM gs bs es) := (ST20b.out.below hb21).below k22
  have hat : At4 w22 Z (.int .i64 q2) (.slice ah nh nh) (.slice avh nvh nvh) (.slice akh nsh nsh) := by rw [hw22, hZ]; exact At4.new _ _ _ _ _ _
  have HT22 : Hid (TreeIn 0 w22 ah nh nh avh nvh nvh akh nsh nsh M2 V2 S2) := (hR21.treeIn HWF.out).keep k22
  obtain ⟨rfl, rfl, rfl⟩ : nh = dn ∧ nvh = dnv ∧ nsh = dns := by
    have h1 := hR21.lens
    have h2 := D6.out.mem.1.length
    have h3 := D6.out.levels.length
    have h4 := D6.out.snaps.length
    omega
  clear ST20b hb21 k22 hR21 T20b E20
  go_upto_region 32 with fail
  rw [← hw22]
  try rw [← hZ]
  clear hw22 hZ
  have bp22 := BP6.out.keep ST22.out.low
  have y0 := hat.c0
  have y1 := hat.c1
  have y2 := hat.c2
  have y3 := hat.c3
  have yz := hat.lt
  have p0 := bp22.c0
  have p1 := bp22.c1
  have p2 := bp22.c2
  have p3 := bp22.c3
  have pz := bp22.lt
  go_wp2_with fail
  clear y0 y1 y2 y3 yz p0 p1 p2 p3 pz bp22 hat
  refine (eqTree_opt q2 0 0 _ _ _ _ _ _ _ _ _ _ _ _ _ _ _ M2 V2 S2 _ HT22.out (D6.out.keep ST22.out.low)).mono ?_
  rintro e w23 ⟨rfl, hb23⟩
  have ST23 : Hid (LawSt w6 w23 Y (.int .i64 q1) (.slice (some ⟨a8, 0, none⟩) nm1 nm1) (.slice (some ⟨b8, 0, none⟩) nv1 nv1) (.slice (some ⟨c8, 0, none⟩) ns1 ns1) G (.int .i64 q2) lo hi ag nh av nvh ak nsh MM VM SM gs bs es) := ST22.out.below hb23
  clear ST22 hb23 HT22
  have y0 := ST23.out.hg.c0
  have y1 := ST23.out.hg.c1
  have y2 := ST23.out.hg.c2
  have y3 := ST23.out.hg.c3
  have yz := ST23.out.hg.lt
  go_wp2_with fail
  clear y0 y1 y2 y3 yz
  refine (CH.out _ ST23.out.res).mono ?_
  rintro e w24 ⟨rfl, hb24⟩
  have HB24 : Hid (Below w.heap.size w w24) := K6.out.trans ((ST23.out.below hb24).low.mono K6.out.size)
  clear ST23 hb24
  go_wp2
  go_ret
  exact ⟨rfl, HB24.out⟩
end Go.Proofs.YtlmgojlffgkciaaGreat
