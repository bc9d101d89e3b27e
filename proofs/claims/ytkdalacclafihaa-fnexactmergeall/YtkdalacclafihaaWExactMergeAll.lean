/-
  The walk of the law FnExactMergeAll: it answers true at every list of lists of entries.
-/
import Derived.Test.YtkdalacclafihaaMgM
import Derived.Test.YtkdalacclafihaaMgG
import Derived.Test.YtkdalacclafihaaEntSS
namespace Go.Proofs.Ytkdalacclafihaa
open Go.RowKit

/-- Two answers in rows of their own. -/
structure MgTwo (w wi : World) (gw cw gg n : Nat) (F G : List EntD) : Prop where
  low : Below w.heap.size w wi
  ow : OwnE wi w.heap.size gw n cw F
  og : OwnE wi w.heap.size gg n n G
theorem MgTwo.below {w wi wj : World} {gw cw gg n : Nat} {F G : List EntD} (h : MgTwo w wi gw cw gg n F G) (hb : Below wi.heap.size wi wj) : MgTwo w wj gw cw gg n F G :=
  ⟨h.low.trans (hb.mono h.low.size), h.ow.below hb, h.og.below hb⟩
theorem MgTwo.keep {w wi wj : World} {gw cw gg n lo hi : Nat} {F G : List EntD} (h : MgTwo w wi gw cw gg n F G) (hk : KeepO lo hi wi wj) (hl : w.heap.size ≤ lo) (h1 : gw < lo ∨ hi ≤ gw) (h2 : gg < lo ∨ hi ≤ gg) : MgTwo w wj gw cw gg n F G :=
  ⟨h.low.trans (hk.below hl h.low.size), hk.own h.ow h1, hk.own h.og h2⟩
theorem MgTwo.mark {w wi wj : World} {gw cw gg n : Nat} {F G G' : List EntD} (h : MgTwo w wi gw cw gg n F G) (hg : wi.grownBy wj (some gg)) (ho : OwnE wj w.heap.size gg n n G') (hne : gw ≠ gg) : MgTwo w wj gw cw gg n F G' :=
  ⟨h.low.grown hg h.low.size (fun k e => by cases e; exact h.og.lt.1), h.ow.grown hg (fun e => hne (Option.some.inj e)), ho⟩
theorem part_le {P : List (List EntD)} {L : List EntD} (h : L ∈ P) : L.length ≤ P.flatten.length := by
  obtain ⟨i, hi⟩ := List.getElem?_of_mem h
  have := part_len hi
  omega

set_option maxRecDepth 100000 in
set_option maxHeartbeats 4000000 in
theorem walkFnExactMergeAll (a : Option Addr) (len cap : Nat) (P : List (List EntD)) (w : World) (h : PartsAt w a len cap P) :
    Calls Try.prog 3 #[.slice a len cap] w fun e w' => e = .returned (.bool true) ∧ Below w.heap.size w w' := by
  have HP : Hid (PartsAt w a len cap P) := h
  clear h
  obtain ⟨n, hn⟩ : ∃ n, P.flatten.length = n := ⟨_, rfl⟩
  have HN : Hid (P.flatten.length = n) := hn
  obtain ⟨F, hF⟩ : ∃ F, F = sortE P.flatten := ⟨_, rfl⟩
  have HFL : Hid (F.length = n) := by show F.length = n; rw [hF, sort_len, hn]
  have CS : Hid (n ≤ 1048576 → ∀ (G : Nat) (w' : World), PartsAt w' (some ⟨G, 0, none⟩) len len P → Calls Try.prog 8 #[.slice (some ⟨G, 0, none⟩) len len] w' fun e w'' => ∃ g cg, e = .returned (.slice (some ⟨g, 0, none⟩) n cg) ∧ OwnE w'' w'.heap.size g n cg F ∧ Below w'.heap.size w' w'') := by
    rw [hF, ← hn]
    exact fun hl G w' h1 => specMerge _ _ _ P w' h1 hl
  have CI : Hid (n ≤ 1048576 → len ≤ 1048576 → (∀ e ∈ P.flatten, SmT e) → ∀ (G : Nat) (w' : World), PartsAt w' (some ⟨G, 0, none⟩) len len P → Calls Try.prog 10 #[.slice (some ⟨G, 0, none⟩) len len] w' fun e w'' => ∃ g, e = .returned (.slice (some ⟨g, 0, none⟩) n n) ∧ OwnE w'' w'.heap.size g n n F ∧ Below w'.heap.size w' w'') := by
    intro hl hl2 hs G w' h1
    refine (callsIn_wide.1 (implMerge _ _ _ P w' h1 hl2 (by rw [hn]; exact hl) hs)).mono ?_
    rintro e w'' ⟨⟨g, rfl, hO⟩, hb⟩
    rw [hn] at hO ⊢
    rw [hF]
    exact ⟨g, rfl, hO, hb⟩
  clear hn hF
  go_enter Try.func3, Try.ntmps3
  go_wp2_with fail
  refine (szEntSS_any _ _ _ P _ _ HP.out (by omega) (by omega)).mono ?_
  rintro e w1 ⟨r, rfl, hr, hb1⟩
  have HB1 : Hid (Below w.heap.size w w1) := hb1
  clear hb1
  rcases hr with rfl | ⟨hr0, hr1, hr2, hr3⟩
  · go_wp2
    go_ret
    exact ⟨rfl, HB1.out⟩
  have hlen : len ≤ 1048576 := by omega
  have hnn : n ≤ 1048576 := by have := HN.out; omega
  have HSM : Hid (∀ e ∈ P.flatten, SmT e) := hr3
  have HSL : Hid (∀ L ∈ P, L.length ≤ 1048576) := fun L hL => by have h1 := part_le hL; have h2 := HN.out; omega
  have hlm : len ≤ maxLen := by unfold maxLen; omega
  clear hr1 hr2 hr3
  go_wp2_with fail
  refine (toEntSS_any _ _ _ P _ (HP.out.keep HB1.out) hlen HSL.out).mono ?_
  rintro e w2 ⟨G2, gs2, rfl, _, hX2, _, hb2⟩
  have HB2 : Hid (Below w.heap.size w w2) := HB1.out.trans (hb2.mono HB1.out.size)
  have HX2 : Hid (PartsAt w2 (some ⟨G2, 0, none⟩) len len P) := hX2.partsAt hlm
  clear hX2 hb2 HB1
  go_wp2_with fail
  refine (CS.out hnn G2 _ HX2.out).mono ?_
  rintro e w3 ⟨gw, cw, rfl, hO3, hb3⟩
  have HB3 : Hid (Below w.heap.size w w3) := HB2.out.trans (hb3.mono HB2.out.size)
  have HO3 : Hid (OwnE w3 w.heap.size gw n cw F) := hO3.mono HB2.out.size
  clear hO3 hb3 HX2 HB2
  go_wp2_with fail
  refine (toEntSS_any _ _ _ P _ (HP.out.keep HB3.out) hlen HSL.out).mono ?_
  rintro e w4 ⟨G, gs, rfl, _, hX4, hgs4, hb4⟩
  have HB4 : Hid (Below w.heap.size w w4) := HB3.out.trans (hb4.mono HB3.out.size)
  have HX4 : Hid (PartsX w4 w3.heap.size G len P gs) := hX4
  have HW4 : Hid (OwnE w4 w.heap.size gw n cw F) := HO3.out.below hb4
  have HGS : Hid (∀ i, i < len → gs i < w4.heap.size) := hgs4
  have HGW : Hid (gw < w3.heap.size ∧ w.heap.size ≤ w3.heap.size) := ⟨HO3.out.lt.2, HB3.out.size⟩
  clear hX4 hb4 hgs4 HB3 HO3
  go_wp2_with fail
  refine (CI.out hnn hlen HSM.out G _ (HX4.out.partsAt hlm)).mono ?_
  rintro e w5 ⟨gg, rfl, hO5, hb5⟩
  have HX5 : Hid (PartsX w5 w3.heap.size G len P gs) := HX4.out.below hb5
  have HT5 : Hid (MgTwo w w5 gw cw gg n F F) := ⟨HB4.out.trans (hb5.mono HB4.out.size), HW4.out.below hb5, hO5.mono HB4.out.size⟩
  have HGG : Hid (w4.heap.size ≤ gg ∧ gw < gg) := ⟨hO5.lt.1, Nat.lt_of_lt_of_le HW4.out.lt.2 hO5.lt.1⟩
  clear hO5 hb5 HB4 HX4 HW4
  go_wp2_with fail
  refine (eqEntS_opt _ _ _ _ _ F _ HT5.out.og.entsAt HT5.out.ow.entsAt).mono ?_
  rintro e w6 ⟨rfl, hb6⟩
  have HX6 : Hid (PartsX w6 w3.heap.size G len P gs) := HX5.out.below hb6
  have HT6 : Hid (MgTwo w w6 gw cw gg n F F) := HT5.out.below hb6
  clear hb6 HX5 HT5
  go_wp2_with fail
  refine (toEntSS_any _ _ _ P _ (HP.out.keep HT6.out.low) hlen HSL.out).mono ?_
  rintro e w7 ⟨G7, gs7, rfl, _, hX7, _, hb7⟩
  have HX7 : Hid (PartsX w7 w3.heap.size G len P gs) := HX6.out.below hb7
  have HT7 : Hid (MgTwo w w7 gw cw gg n F F) := HT6.out.below hb7
  have HY7 : Hid (PartsAt w7 (some ⟨G7, 0, none⟩) len len P) := hX7.partsAt hlm
  clear hb7 HX6 HT6 hX7
  go_wp2_with fail
  refine (eqEntSS_any _ _ _ _ _ P _ (HX7.out.partsAt hlm) HY7.out).mono ?_
  rintro e w8 ⟨rfl, hb8⟩
  have HX8 : Hid (PartsX w8 w3.heap.size G len P gs) := HX7.out.below hb8
  have HT8 : Hid (MgTwo w w8 gw cw gg n F F) := HT7.out.below hb8
  clear hb8 HX7 HT7 HY7
  go_wp2_with fail
  refine (markEntSS_any w3.heap.size w4.heap.size G len 1 P gs _ HX8.out HGS.out (by omega) (by have := HN.out; omega) hlen).mono ?_
  rintro e w9 ⟨⟨kv, rfl⟩, hk9⟩
  have HT9 : Hid (MgTwo w w9 gw cw gg n F F) := HT8.out.keep hk9 HGW.out.2 (.inl HGW.out.1) (.inr HGG.out.1)
  clear hk9 HX8 HT8
  have hkv : ¬ (kv : Int) < 0 := by omega
  go_wp2_with fail
  refine (eqEntS_opt _ _ _ _ _ F _ HT9.out.og.entsAt HT9.out.ow.entsAt).mono ?_
  rintro e w10 ⟨rfl, hb10⟩
  have HT10 : Hid (MgTwo w w10 gw cw gg n F F) := HT9.out.below hb10
  clear HT9 hb10
  go_wp2_with fail
  refine (markE_any w.heap.size gg n n 1 F _ HT10.out.og (by omega) (by omega)).mono ?_
  rintro e w11 ⟨rfl, hO11, hg11⟩
  have HT11 : Hid (MgTwo w w11 gw cw gg n F (markL 1 n)) := HT10.out.mark hg11 hO11 (by have := HGG.out.2; omega)
  clear HT10 hO11 hg11
  obtain ⟨mv, hmv⟩ : ∃ mv : Int, mv = ((1 + 5 * n : Nat) : Int) := ⟨_, rfl⟩
  have hm0 : ¬ mv < 0 := by omega
  have CH : Hid (∀ w', OwnE w' w.heap.size gg n n (markL 1 n) → Calls Try.prog 15 #[.slice (some ⟨gg, 0, none⟩) n n, .int .i64 1] w' fun e w'' => e = .returned (.int .i64 mv) ∧ Below w'.heap.size w' w'') := by rw [hmv]; exact fun w' h => heldO_any w.heap.size _ n n w' (OwnO.some h) (by omega)
  rw [← hmv]
  clear hmv
  go_wp2_with fail
  refine (CH.out _ HT11.out.og).mono ?_
  rintro e w12 ⟨rfl, hb12⟩
  have HT12 : Hid (MgTwo w w12 gw cw gg n F (markL 1 n)) := HT11.out.below hb12
  clear HT11 hb12
  go_wp2_with fail
  refine (toEntSS_any _ _ _ P _ (HP.out.keep HT12.out.low) hlen HSL.out).mono ?_
  rintro e w13 ⟨G13, gs13, rfl, _, hX13, _, hb13⟩
  have HT13 : Hid (MgTwo w w13 gw cw gg n F (markL 1 n)) := HT12.out.below hb13
  have HY13 : Hid (PartsAt w13 (some ⟨G13, 0, none⟩) len len P) := hX13.partsAt hlm
  clear hb13 HT12 hX13
  go_wp2_with fail
  refine (CI.out hnn hlen HSM.out G13 _ HY13.out).mono ?_
  rintro e w14 ⟨gh, rfl, hO14, hb14⟩
  have HT14 : Hid (MgTwo w w14 gw cw gg n F (markL 1 n)) := HT13.out.below hb14
  have HO14 : Hid (EntsAt w14 (some ⟨gh, 0, none⟩) n n F) := hO14.entsAt
  clear hb14 HT13 HY13 hO14
  go_wp2_with fail
  refine (eqEntS_opt _ _ _ _ _ F _ HO14.out HT14.out.ow.entsAt).mono ?_
  rintro e w15 ⟨rfl, hb15⟩
  have HT15 : Hid (MgTwo w w15 gw cw gg n F (markL 1 n)) := HT14.out.below hb15
  clear hb15 HT14 HO14
  go_wp2_with fail
  refine (CH.out _ HT15.out.og).mono ?_
  rintro e w16 ⟨rfl, hb16⟩
  have HB16 : Hid (Below w.heap.size w w16) := (HT15.out.below hb16).low
  clear HT15 hb16
  go_wp2
  go_ret
  exact ⟨rfl, HB16.out⟩
end Go.Proofs.Ytkdalacclafihaa
