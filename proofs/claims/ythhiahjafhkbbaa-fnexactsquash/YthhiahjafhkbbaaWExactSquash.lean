/-
  The walk of the law FnExactSquash: it answers true at every list of entries, every list of times and either bool.
-/
import Derived.Test.YthhiahjafhkbbaaSqX
import Derived.Test.YthhiahjafhkbbaaSqG
import Derived.Test.YthhiahjafhkbbaaIntL
import Derived.Test.YthhiahjafhkbbaaOwnM
import Derived.Test.YthhiahjafhkbbaaEntsO
namespace Go.Proofs.Ythhiahjafhkbbaa
open Go.RowKit

/-- What lies where, between two calls of the law: the document's answer, the program's, and the arguments. -/
structure SqSt (w wi : World) (bx bi gw : Nat) (ag : Option Addr) (len m n cw cg : Nat) (LX : List EntD) (SX : List Int) (F G : List EntD) : Prop where
  low : Below w.heap.size w wi
  ox : OwnE wi w.heap.size bx len len LX
  oi : OwnN wi w.heap.size bi m m SX
  ow : OwnE wi w.heap.size gw n cw F
  og : OwnO wi w.heap.size ag n cg G
theorem SqSt.below {w wi wj : World} {bx bi gw : Nat} {ag : Option Addr} {len m n cw cg : Nat} {LX : List EntD} {SX : List Int} {F G : List EntD} (h : SqSt w wi bx bi gw ag len m n cw cg LX SX F G) (hb : Below wi.heap.size wi wj) : SqSt w wj bx bi gw ag len m n cw cg LX SX F G :=
  ⟨h.low.trans (hb.mono h.low.size), h.ox.below hb, h.oi.below hb, h.ow.below hb, h.og.below hb⟩
theorem SqSt.markX {w wi wj : World} {bx bi gw : Nat} {ag : Option Addr} {len m n cw cg : Nat} {LX LX' : List EntD} {SX : List Int} {F G : List EntD} (h : SqSt w wi bx bi gw ag len m n cw cg LX SX F G) (hg : wi.grownBy wj (some bx)) (hx : OwnE wj w.heap.size bx len len LX') (n1 : bi ≠ bx) (n2 : gw ≠ bx) (n3 : ∀ x, ag = some x → x.block ≠ bx) : SqSt w wj bx bi gw ag len m n cw cg LX' SX F G :=
  ⟨h.low.grown hg h.low.size (fun k e => by cases e; exact h.ox.lt.1), hx, h.oi.grown hg (fun e => n1 (Option.some.inj e)), h.ow.grown hg (fun e => n2 (Option.some.inj e)), h.og.grown hg (fun x e e' => n3 x e (by cases e'; rfl))⟩
/-- And behind the marks: the answers alone. -/
structure SqEn (w wi : World) (gw : Nat) (ag : Option Addr) (n cw cg : Nat) (F G : List EntD) : Prop where
  low : Below w.heap.size w wi
  ow : OwnE wi w.heap.size gw n cw F
  og : OwnO wi w.heap.size ag n cg G
theorem SqEn.below {w wi wj : World} {gw : Nat} {ag : Option Addr} {n cw cg : Nat} {F G : List EntD} (h : SqEn w wi gw ag n cw cg F G) (hb : Below wi.heap.size wi wj) : SqEn w wj gw ag n cw cg F G :=
  ⟨h.low.trans (hb.mono h.low.size), h.ow.below hb, h.og.below hb⟩
theorem SqSt.markI {w wi wj : World} {bx bi gw : Nat} {ag : Option Addr} {len m n cw cg : Nat} {LX : List EntD} {SX : List Int} {F G : List EntD} (h : SqSt w wi bx bi gw ag len m n cw cg LX SX F G) (hg : wi.grownBy wj (some bi)) (n2 : gw ≠ bi) (n3 : ∀ x, ag = some x → x.block ≠ bi) : SqEn w wj gw ag n cw cg F G :=
  ⟨h.low.grown hg h.low.size (fun k e => by cases e; exact h.oi.lt.1), h.ow.grown hg (fun e => n2 (Option.some.inj e)), h.og.grown hg (fun x e e' => n3 x e (by cases e'; rfl))⟩
theorem SqEn.markG {w wi wj : World} {gw : Nat} {ag : Option Addr} {n cw cg : Nat} {F G G' : List EntD} (h : SqEn w wi gw ag n cw cg F G) (hg : wi.grownBy wj (ag.map Addr.block)) (hx : OwnO wj w.heap.size ag n cg G') (n1 : ∀ x, ag = some x → x.block ≠ gw) : SqEn w wj gw ag n cw cg F G' := by
  refine ⟨h.low.grown hg h.low.size (fun k e => ?_), h.ow.grown hg (fun e => ?_), hx⟩
  · cases hag : ag with
    | none => rw [hag] at e; cases e
    | some x => rw [hag] at e; have := (h.og.lt x hag).1; cases e; exact this
  · cases hag : ag with
    | none => rw [hag] at e; cases e
    | some x => rw [hag] at e; exact n1 x hag (by simpa using e.symm)
theorem toEntS_sq (a : Option Addr) (len cap : Nat) (L : List EntD) (w : World) (hL : EntsAt w a len cap L) (hbig : len ≤ 1048576) :
    Calls Try.prog 13 #[.slice a len cap] w fun e w' => ∃ b, e = .returned (.slice (some ⟨b, 0, none⟩) len len) ∧ w.heap.size ≤ b ∧ OwnE w' w.heap.size b len len L ∧ Below w.heap.size w w' := by
  refine (toEntS_own a len cap L w hL hbig).mono ?_
  rintro e w' ⟨rfl, h1, _, h2⟩
  exact ⟨_, rfl, Nat.le_refl _, h1, h2⟩
theorem toIntS_sq (lo : Nat) (a : Option Addr) (len cap : Nat) (S : List Int) (w : World) (hL : IntsIn lo w a len cap S) (hbig : len ≤ 1048576) :
    Calls Try.prog 14 #[.slice a len cap] w fun e w' => ∃ b, e = .returned (.slice (some ⟨b, 0, none⟩) len len) ∧ w.heap.size ≤ b ∧ OwnN w' w.heap.size b len len S ∧ Below w.heap.size w w' := by
  refine (toIntS_own lo a len cap S w hL hbig).mono ?_
  rintro e w' ⟨rfl, h1, _, h2⟩
  exact ⟨_, rfl, Nat.le_refl _, h1, h2⟩
theorem OwnN.mono {w : World} {base base' g n c : Nat} {S : List Int} (h : OwnN w base g n c S) (hb : base' ≤ base) : OwnN w base' g n c S := by
  refine ⟨⟨h.owns.1, ?_⟩, h.len, h.wfs⟩
  rcases h.owns.2 with h1 | ⟨g', cap, cur, hv, hb', r⟩
  · exact .inl h1
  · exact .inr ⟨g', cap, cur, hv, Nat.le_trans hb hb', r⟩

set_option maxRecDepth 100000 in
set_option maxHeartbeats 4000000 in
theorem walkFnExactSquash (a : Option Addr) (len cap : Nat) (L : List EntD) (ai : Option Addr) (m d : Nat) (S : List Int) (bottom : Bool) (w : World) (h : EntsAt w a len cap L) (hi : IntsIn 0 w ai m d S) (_hb : True) :
    Calls Try.prog 3 #[.slice a len cap, .slice ai m d, .bool bottom] w fun e w' => e = .returned (.bool true) ∧ Below w.heap.size w w' := by
  have HL : Hid (EntsAt w a len cap L) := h
  have HLN : Hid (L.length = len) := h.length
  have HI : Hid (IntsIn 0 w ai m d S) := hi
  clear h hi
  have HFL : Hid ((squashL L S bottom).length ≤ L.length) := squashL_len L S bottom
  obtain ⟨F, hF⟩ : ∃ F, F = squashL L S bottom := ⟨_, rfl⟩
  by_cases hm : m ≤ 1048576
  · have hmI : ¬ (1048576 : Int) < (m : Int) := by omega
    have CS : Hid (len ≤ 1048576 → ∀ (b g lo : Nat) (w' : World), EntsAt w' (some ⟨b, 0, none⟩) len len L → IntsIn lo w' (some ⟨g, 0, none⟩) m m S → Calls Try.prog 12 #[.slice (some ⟨b, 0, none⟩) len len, .slice (some ⟨g, 0, none⟩) m m, .bool bottom] w' fun e w'' => ∃ g n' c', e = .returned (.slice (some ⟨g, 0, none⟩) n' c') ∧ OwnE w'' w'.heap.size g n' c' F ∧ Below w'.heap.size w' w'') := by rw [hF]; exact fun hl b g lo w' h1 h2 => specSquash lo _ _ _ L _ _ _ S bottom w' h1 h2 hl
    have CI : Hid (len ≤ 1048576 → ∀ (b g lo : Nat) (w' : World), EntsAt w' (some ⟨b, 0, none⟩) len len L → IntsIn lo w' (some ⟨g, 0, none⟩) m m S → b < w'.heap.size → Calls Try.prog 15 #[.slice (some ⟨b, 0, none⟩) len len, .slice (some ⟨g, 0, none⟩) m m, .bool bottom] w' fun e w'' => ∃ ar n' c', e = .returned (.slice ar n' c') ∧ OwnO w'' w'.heap.size ar n' c' F ∧ Below w'.heap.size w' w'') := by rw [hF]; exact fun hl b g lo w' h1 h2 h3 => callsIn_wide.1 (implSquash lo b 0 len len L _ _ _ S bottom w' h1 h2 hl hm h3)
    rw [← hF] at HFL
    clear hF
    go_enter Try.func3, Try.ntmps3
    go_wp2_with fail
    refine (szEntS_any _ _ _ L _ _ HL.out (by omega) (by omega)).mono ?_
    rintro e w1 ⟨r, rfl, hr, hb1⟩
    have HB1 : Hid (Below w.heap.size w w1) := hb1
    clear hb1
    rcases hr with rfl | ⟨hr0, hr1, hln⟩
    · go_wp2
      go_ret
      exact ⟨rfl, HB1.out⟩
    have hlen : len ≤ 1048576 := by omega
    clear hr1 hln
    go_wp2_with fail
    refine (toEntS_sq _ _ _ L _ (HL.out.keep HB1.out) hlen).mono ?_
    rintro e w2 ⟨b2, rfl, _, hO2, hb2⟩
    have HB2 : Hid (Below w.heap.size w w2) := HB1.out.trans (hb2.mono HB1.out.size)
    have HO2 : Hid (EntsAt w2 (some ⟨b2, 0, none⟩) len len L) := hO2.entsAt
    clear hO2 hb2 HB1
    go_wp2_with fail
    refine (toIntS_sq 0 _ _ _ S _ (HI.out.keep HB2.out) hm).mono ?_
    rintro e w2i ⟨g2, rfl, _, hN2, hb2i⟩
    have HB2i : Hid (Below w.heap.size w w2i) := HB2.out.trans (hb2i.mono HB2.out.size)
    have HO2i : Hid (EntsAt w2i (some ⟨b2, 0, none⟩) len len L) := HO2.out.keep hb2i
    have HN2 : Hid (IntsIn w2.heap.size w2i (some ⟨g2, 0, none⟩) m m S) := hN2.ints
    clear HO2 HB2 hN2 hb2i
    go_wp2_with fail
    refine (CS.out hlen b2 g2 _ _ HO2i.out HN2.out).mono ?_
    rintro e w3 ⟨gw, n, cw, rfl, hO3, hb3⟩
    have HB3 : Hid (Below w.heap.size w w3) := HB2i.out.trans (hb3.mono HB2i.out.size)
    have HO3 : Hid (OwnE w3 w.heap.size gw n cw F) := hO3.mono HB2i.out.size
    have hn : n ≤ 1048576 := by have := hO3.len; have := HFL.out; have := HLN.out; omega
    clear hO3 hb3 HO2i HB2i HN2
    go_wp2_with fail
    refine (toEntS_sq _ _ _ L _ (HL.out.keep HB3.out) hlen).mono ?_
    rintro e w4 ⟨bx, rfl, hbx, hO4, hb4⟩
    have hgx : gw < bx := Nat.lt_of_lt_of_le HO3.out.lt.2 hbx
    have HB4 : Hid (Below w.heap.size w w4) := HB3.out.trans (hb4.mono HB3.out.size)
    have HX4 : Hid (OwnE w4 w.heap.size bx len len L) := hO4.mono HB3.out.size
    have HW4 : Hid (OwnE w4 w.heap.size gw n cw F) := HO3.out.below hb4
    clear hO4 hb4 hbx HB3 HO3
    go_wp2_with fail
    refine (toIntS_sq 0 _ _ _ S _ (HI.out.keep HB4.out) hm).mono ?_
    rintro e w5 ⟨bi, rfl, hbi, hN5, hb5⟩
    have hxi : bx < bi := Nat.lt_of_lt_of_le HX4.out.lt.2 hbi
    have HB5 : Hid (Below w.heap.size w w5) := HB4.out.trans (hb5.mono HB4.out.size)
    have HX5 : Hid (OwnE w5 w.heap.size bx len len L) := HX4.out.below hb5
    have HW5 : Hid (OwnE w5 w.heap.size gw n cw F) := HW4.out.below hb5
    have HI5 : Hid (OwnN w5 w.heap.size bi m m S) := hN5.mono HB4.out.size
    clear hN5 hb5 hbi HB4 HX4 HW4
    go_wp2_with fail
    refine (CI.out hlen bx bi _ _ HX5.out.entsAt HI5.out.ints HX5.out.lt.2).mono ?_
    rintro e w6 ⟨ag, ng, cg, rfl, hO6, hb6⟩
    obtain rfl : ng = n := by have h1 := hO6.len; have h2 := HW5.out.len; omega
    have HAG : Hid (∀ x, ag = some x → w5.heap.size ≤ x.block ∧ x.block < w6.heap.size) := fun x e => hO6.lt x e
    have li5 := HI5.out.lt.2
    have HN1 : Hid (∀ x, ag = some x → x.block ≠ bx ∧ x.block ≠ bi ∧ x.block ≠ gw) := fun x e => by have := HAG.out x e; omega
    have HN2 : Hid (bi ≠ bx ∧ gw ≠ bx ∧ gw ≠ bi) := by show _ ∧ _; omega
    have HS : Hid (SqSt w w6 bx bi gw ag len m ng cw cg L S F F) := ⟨HB5.out.trans (hb6.mono HB5.out.size), HX5.out.below hb6, HI5.out.below hb6, HW5.out.below hb6, hO6.mono HB5.out.size⟩
    clear hO6 hb6 HB5 HX5 HW5 HI5 li5 HAG hgx hxi
    go_wp2_with fail
    refine (eqEntS_opt _ _ _ _ _ F _ HS.out.og.entsAt HS.out.ow.entsAt).mono ?_
    rintro e w7 ⟨rfl, hb7⟩
    have HS7 : Hid (SqSt w w7 bx bi gw ag len m ng cw cg L S F F) := HS.out.below hb7
    clear HS hb7
    go_wp2_with fail
    refine (toEntS_sq _ _ _ L _ (HL.out.keep HS7.out.low) hlen).mono ?_
    rintro e w8 ⟨b8, rfl, _, hO8, hb8⟩
    have HS8 : Hid (SqSt w w8 bx bi gw ag len m ng cw cg L S F F) := HS7.out.below hb8
    have HO8 : Hid (EntsAt w8 (some ⟨b8, 0, none⟩) len len L) := hO8.entsAt
    clear HS7 hb8 hO8
    go_wp2_with fail
    refine (eqEntS_opt _ _ _ _ _ L _ HS8.out.ox.entsAt HO8.out).mono ?_
    rintro e w9 ⟨rfl, hb9⟩
    have HS9 : Hid (SqSt w w9 bx bi gw ag len m ng cw cg L S F F) := HS8.out.below hb9
    clear HS8 hb9 HO8
    go_wp2_with fail
    refine (toIntS_sq 0 _ _ _ S _ (HI.out.keep HS9.out.low) hm).mono ?_
    rintro e w10 ⟨b10, rfl, _, hN10, hb10⟩
    have HS10 : Hid (SqSt w w10 bx bi gw ag len m ng cw cg L S F F) := HS9.out.below hb10
    have HN10 : Hid (IntsIn w9.heap.size w10 (some ⟨b10, 0, none⟩) m m S) := hN10.ints
    clear HS9 hb10 hN10
    go_wp2_with fail
    refine (eqIntS_opt _ _ _ _ _ _ _ S _ HS10.out.oi.ints HN10.out).mono ?_
    rintro e w11 ⟨rfl, hb11⟩
    have HS11 : Hid (SqSt w w11 bx bi gw ag len m ng cw cg L S F F) := HS10.out.below hb11
    clear HS10 hb11 HN10
    go_wp2_with fail
    refine (markE_any w.heap.size bx len len 1 L _ HS11.out.ox (by omega) (by omega)).mono ?_
    rintro e w12 ⟨rfl, hO12, hg12⟩
    have HS12 : Hid (SqSt w w12 bx bi gw ag len m ng cw cg (markL 1 len) S F F) := HS11.out.markX hg12 hO12 HN2.out.1 HN2.out.2.1 (fun x e => (HN1.out x e).1)
    clear HS11 hO12 hg12
    obtain ⟨kv, hkv⟩ : ∃ kv : Nat, kv = 1 + 5 * len := ⟨_, rfl⟩
    rw [← hkv]
    have hkv2 : kv + m ≤ 1000000000 := by omega
    clear hkv
    go_wp2_with fail
    refine (markI_any w.heap.size bi m m kv S _ HS12.out.oi hkv2).mono ?_
    rintro e w13 ⟨rfl, hg13⟩
    have HS13 : Hid (SqEn w w13 gw ag ng cw cg F F) := HS12.out.markI hg13 HN2.out.2.2 (fun x e => (HN1.out x e).2.1)
    clear HS12 hg13
    obtain ⟨kw, hkw⟩ : ∃ kw : Int, kw = ((kv + m : Nat) : Int) := ⟨_, rfl⟩
    have hkw0 : ¬ kw < 0 := by omega
    rw [← hkw]
    clear hkw hkv2
    go_wp2_with fail
    refine (eqEntS_opt _ _ _ _ _ F _ HS13.out.og.entsAt HS13.out.ow.entsAt).mono ?_
    rintro e w14 ⟨rfl, hb14⟩
    have HS14 : Hid (SqEn w w14 gw ag ng cw cg F F) := HS13.out.below hb14
    clear HS13 hb14
    go_wp2_with fail
    refine (markO_any w.heap.size ag ng cg F _ HS14.out.og (by omega)).mono ?_
    rintro e w15 ⟨rfl, hO15, hg15⟩
    have HS15 : Hid (SqEn w w15 gw ag ng cw cg F (markL 1 ng)) := HS14.out.markG hg15 hO15 (fun x e => (HN1.out x e).2.2)
    clear HS14 hO15 hg15
    obtain ⟨mv, hmv⟩ : ∃ mv : Int, mv = ((1 + 5 * ng : Nat) : Int) := ⟨_, rfl⟩
    have hm0 : ¬ mv < 0 := by omega
    have CH : Hid (∀ w', OwnO w' w.heap.size ag ng cg (markL 1 ng) → Calls Try.prog 20 #[.slice ag ng cg, .int .i64 1] w' fun e w'' => e = .returned (.int .i64 mv) ∧ Below w'.heap.size w' w'') := by rw [hmv]; exact fun w' h => heldO_any w.heap.size ag ng cg w' h (by omega)
    rw [← hmv]
    clear hmv
    go_wp2_with fail
    refine (CH.out _ HS15.out.og).mono ?_
    rintro e w16 ⟨rfl, hb16⟩
    have HS16 : Hid (SqEn w w16 gw ag ng cw cg F (markL 1 ng)) := HS15.out.below hb16
    clear HS15 hb16
    go_wp2_with fail
    refine (toEntS_sq _ _ _ L _ (HL.out.keep HS16.out.low) hlen).mono ?_
    rintro e w17 ⟨b17, rfl, _, hO17, hb17⟩
    have HS17 : Hid (SqEn w w17 gw ag ng cw cg F (markL 1 ng)) := HS16.out.below hb17
    have HO17 : Hid (OwnE w17 w16.heap.size b17 len len L) := hO17
    clear HS16 hb17 hO17
    go_wp2_with fail
    refine (toIntS_sq 0 _ _ _ S _ (HI.out.keep HS17.out.low) hm).mono ?_
    rintro e w18 ⟨b18, rfl, _, hN18, hb18⟩
    have HS18 : Hid (SqEn w w18 gw ag ng cw cg F (markL 1 ng)) := HS17.out.below hb18
    have HO18 : Hid (OwnE w18 w16.heap.size b17 len len L) := HO17.out.below hb18
    have HN18 : Hid (IntsIn w17.heap.size w18 (some ⟨b18, 0, none⟩) m m S) := hN18.ints
    clear HS17 hb18 hN18 HO17
    go_wp2_with fail
    refine (CI.out hlen b17 b18 _ _ HO18.out.entsAt HN18.out HO18.out.lt.2).mono ?_
    rintro e w19 ⟨ah, nh, ch, rfl, hO19, hb19⟩
    have HS19 : Hid (SqEn w w19 gw ag ng cw cg F (markL 1 ng)) := HS18.out.below hb19
    obtain rfl : nh = ng := by have h1 := hO19.len; have h2 := HS19.out.ow.len; omega
    have HO19 : Hid (EntsAt w19 ah nh ch F) := hO19.entsAt
    clear HS18 hb19 hO19 HO18 HN18
    go_wp2_with fail
    refine (eqEntS_opt _ _ _ _ _ F _ HO19.out HS19.out.ow.entsAt).mono ?_
    rintro e w20 ⟨rfl, hb20⟩
    have HS20 : Hid (SqEn w w20 gw ag nh cw cg F (markL 1 nh)) := HS19.out.below hb20
    clear HS19 hb20 HO19
    go_wp2_with fail
    refine (CH.out _ HS20.out.og).mono ?_
    rintro e w21 ⟨rfl, hb21⟩
    have HB21 : Hid (Below w.heap.size w w21) := (HS20.out.below hb21).low
    clear HS20 hb21
    go_wp2
    go_ret
    exact ⟨rfl, HB21.out⟩
  · have hmI : (1048576 : Int) < (m : Int) := by omega
    go_enter Try.func3, Try.ntmps3
    go_wp2
    go_ret
    exact ⟨rfl, Below.refl _ _⟩
end Go.Proofs.Ythhiahjafhkbbaa
