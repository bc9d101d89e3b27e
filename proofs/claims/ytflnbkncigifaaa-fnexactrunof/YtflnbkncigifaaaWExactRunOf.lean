/-
  The walk of the law FnExactRunOf: it answers true at every list of entries.
-/
import Derived.Test.YtflnbkncigifaaaRunOfI
import Derived.Test.YtflnbkncigifaaaMarkR
namespace Go.Proofs.Ytflnbkncigifaaa
open Go.RowKit

/-- What lies where, between two calls of the law: the document's run (its box P), the program's run (its box Q), and the argument. -/
structure OfSt (w wi : World) (P Q bx : Nat) (aw ag : Option Addr) (len n cw cg : Nat) (m : Int) (LX F G : List EntD) : Prop where
  low : Below w.heap.size w wi
  p0 : wi.cell? ⟨P, 0, none⟩ = some (.slice aw n cw)
  p1 : wi.cell? ⟨P, 1, none⟩ = some (.int .i64 m)
  q0 : wi.cell? ⟨Q, 0, none⟩ = some (.slice ag n cg)
  q1 : wi.cell? ⟨Q, 1, none⟩ = some (.int .i64 m)
  ox : OwnE wi w.heap.size bx len len LX
  ow : OwnO wi w.heap.size aw n cw F
  og : OwnO wi w.heap.size ag n cg G
theorem OfSt.ltP {w wi : World} {P Q bx : Nat} {aw ag : Option Addr} {len n cw cg : Nat} {m : Int} {LX F G : List EntD} (h : OfSt w wi P Q bx aw ag len n cw cg m LX F G) : P < wi.heap.size := World.block_lt_of_cell? _ _ h.p0
theorem OfSt.ltQ {w wi : World} {P Q bx : Nat} {aw ag : Option Addr} {len n cw cg : Nat} {m : Int} {LX F G : List EntD} (h : OfSt w wi P Q bx aw ag len n cw cg m LX F G) : Q < wi.heap.size := World.block_lt_of_cell? _ _ h.q0
theorem OfSt.below {w wi wj : World} {P Q bx : Nat} {aw ag : Option Addr} {len n cw cg : Nat} {m : Int} {LX F G : List EntD} (h : OfSt w wi P Q bx aw ag len n cw cg m LX F G) (hb : Below wi.heap.size wi wj) : OfSt w wj P Q bx aw ag len n cw cg m LX F G :=
  ⟨h.low.trans (hb.mono h.low.size), cell_later hb h.p0, cell_later hb h.p1, cell_later hb h.q0, cell_later hb h.q1, h.ox.below hb, h.ow.below hb, h.og.below hb⟩
theorem OfSt.markX {w wi wj : World} {P Q bx : Nat} {aw ag : Option Addr} {len n cw cg : Nat} {m : Int} {LX LX' F G : List EntD} (h : OfSt w wi P Q bx aw ag len n cw cg m LX F G) (hg : wi.grownBy wj (some bx)) (hx : OwnE wj w.heap.size bx len len LX') (n1 : P ≠ bx) (n2 : Q ≠ bx) (n3 : ∀ x, aw = some x → x.block ≠ bx) (n4 : ∀ x, ag = some x → x.block ≠ bx) : OfSt w wj P Q bx aw ag len n cw cg m LX' F G :=
  ⟨h.low.grown hg h.low.size (fun k e => by cases e; exact h.ox.lt.1), (grown_cell hg (x := ⟨P, 0, none⟩) h.ltP n1).trans h.p0, (grown_cell hg (x := ⟨P, 1, none⟩) h.ltP n1).trans h.p1, (grown_cell hg (x := ⟨Q, 0, none⟩) h.ltQ n2).trans h.q0, (grown_cell hg (x := ⟨Q, 1, none⟩) h.ltQ n2).trans h.q1, hx, h.ow.grown hg (fun x e e' => n3 x e (by cases e'; rfl)), h.og.grown hg (fun x e e' => n4 x e (by cases e'; rfl))⟩
theorem OfSt.markG {w wi wj : World} {P Q bx : Nat} {aw ag : Option Addr} {len n cw cg : Nat} {m : Int} {LX F G G' : List EntD} (h : OfSt w wi P Q bx aw ag len n cw cg m LX F G) (hg : wi.grownBy wj (ag.map Addr.block)) (hx : OwnO wj w.heap.size ag n cg G') (n1 : ∀ x, ag = some x → x.block ≠ P ∧ x.block ≠ Q ∧ x.block ≠ bx) (n2 : ∀ x y, ag = some x → aw = some y → x.block ≠ y.block) : OfSt w wj P Q bx aw ag len n cw cg m LX F G' := by
  have key : ∀ Y, (∀ x, ag = some x → x.block ≠ Y) → some Y ≠ ag.map Addr.block := fun Y hY e => by
    cases hag : ag with
    | none => rw [hag] at e; cases e
    | some x => rw [hag] at e; exact hY x hag (by simpa using e.symm)
  refine ⟨h.low.grown hg h.low.size (fun k e => ?_), hg.cell h.p0 (key P fun x e => (n1 x e).1), hg.cell h.p1 (key P fun x e => (n1 x e).1), hg.cell h.q0 (key Q fun x e => (n1 x e).2.1), hg.cell h.q1 (key Q fun x e => (n1 x e).2.1), h.ox.grown hg (key bx fun x e => (n1 x e).2.2), h.ow.grown hg (fun y e' => key y.block fun x e => n2 x y e e'), hx⟩
  cases hag : ag with
  | none => rw [hag] at e; cases e
  | some x => rw [hag] at e; have := (h.og.lt x hag).1; cases e; exact this
theorem toEntS_ex (a : Option Addr) (len cap : Nat) (L : List EntD) (w : World) (hL : EntsAt w a len cap L) (hbig : len ≤ 1048576) :
    Calls Try.prog 10 #[.slice a len cap] w fun e w' => ∃ b, e = .returned (.slice (some ⟨b, 0, none⟩) len len) ∧ w.heap.size ≤ b ∧ OwnE w' w.heap.size b len len L ∧ Below w.heap.size w w' := by
  refine (toEntS_own a len cap L w hL hbig).mono ?_
  rintro e w' ⟨rfl, h1, _, h2⟩
  exact ⟨_, rfl, Nat.le_refl _, h1, h2⟩

set_option maxRecDepth 100000 in
set_option maxHeartbeats 4000000 in
theorem walkFnExactRunOf (a : Option Addr) (len cap : Nat) (L : List EntD) (w : World) (h : EntsAt w a len cap L) :
    Calls Try.prog 3 #[.slice a len cap] w fun e w' => e = .returned (.bool true) ∧ Below w.heap.size w w' := by
  have HL : Hid (EntsAt w a len cap L) := h
  have HLN : Hid (L.length = len) := h.length
  clear h
  have HFL : Hid ((ofL L).length ≤ L.length) := of_len L
  obtain ⟨F, hF⟩ : ∃ F, F = ofL L := ⟨_, rfl⟩
  obtain ⟨m, hm⟩ : ∃ m, m = ofM L := ⟨_, rfl⟩
  obtain ⟨ok, hok⟩ : ∃ ok, ok = ofB L := ⟨_, rfl⟩
  have CS : Hid (∀ (b : Nat) (w' : World), EntsAt w' (some ⟨b, 0, none⟩) len len L → Calls Try.prog 9 #[.slice (some ⟨b, 0, none⟩) len len] w' (OfR F m ok w')) := by rw [hF, hm, hok]; exact fun b w' h1 => specRunOf _ _ _ L w' h1
  have CI : Hid (∀ (b : Nat) (w' : World), EntsAt w' (some ⟨b, 0, none⟩) len len L → Calls Try.prog 11 #[.slice (some ⟨b, 0, none⟩) len len] w' (OfR F m ok w')) := by rw [hF, hm, hok]; exact fun b w' h1 => implRunOf _ _ _ L w' h1
  rw [← hF] at HFL
  clear hF hm hok
  go_enter Try.func3, Try.ntmps3
  go_wp2_with fail
  refine (szEntS_any _ _ _ L _ _ HL.out (by omega) (by omega)).mono ?_
  rintro e w1 ⟨r, rfl, hr, hb1⟩
  have HB1 : Hid (Below w.heap.size w w1) := hb1
  clear hb1
  rcases hr with rfl | ⟨hr0, hr1, hln⟩
  · go_wp2
    go_ret
    exact ⟨rfl, HB1.out⟩
  have hlen : len ≤ 1048576 := by omega
  clear hr1 hln
  go_wp2_with fail
  refine (toEntS_ex _ _ _ L _ (HL.out.keep HB1.out) hlen).mono ?_
  rintro e w2 ⟨b2, rfl, _, hO2, hb2⟩
  have HB2 : Hid (Below w.heap.size w w2) := HB1.out.trans (hb2.mono HB1.out.size)
  have HO2 : Hid (EntsAt w2 (some ⟨b2, 0, none⟩) len len L) := hO2.entsAt
  clear hO2 hb2 HB1
  go_wp2_with fail
  refine (CS.out b2 _ HO2.out).mono ?_
  rintro e w3 ⟨aw, n, cw, rfl, hO3, hb3⟩
  have HB3 : Hid (Below w.heap.size w w3) := HB2.out.trans (hb3.mono HB2.out.size)
  have HO3 : Hid (OwnO w3 w.heap.size aw n cw F) := hO3.mono HB2.out.size
  have hn : n ≤ 1048576 := by have := hO3.len; have := HFL.out; have := HLN.out; omega
  clear hO3 hb3 HO2 HB2
  obtain ⟨P, hP⟩ : ∃ P, P = w3.heap.size := ⟨_, rfl⟩
  obtain ⟨W3, hW3⟩ : ∃ W, W = w3.alloc (.cells #[.slice aw n cw, .int .i64 m] 26) := ⟨_, rfl⟩
  have k3 : Below w3.heap.size w3 W3 := by rw [hW3]; exact (Below.refl _ _).alloc (Nat.le_refl _) _
  have p3 : W3.cell? ⟨P, 0, none⟩ = some (.slice aw n cw) := by rw [hW3, hP]; simp
  have r3 : W3.cell? ⟨P, 1, none⟩ = some (.int .i64 m) := by rw [hW3, hP]; simp
  have HB3' : Hid (Below w.heap.size w W3) := HB3.out.trans (k3.mono HB3.out.size)
  have HO3' : Hid (OwnO W3 w.heap.size aw n cw F) := HO3.out.below k3
  have HAW : Hid (∀ y, aw = some y → y.block < P) := fun y e => by rw [hP]; exact (HO3.out.lt y e).2
  go_wp2_with fail
  rw [← hW3, ← hP]
  clear k3 hW3 hP HB3 HO3
  refine (toEntS_ex _ _ _ L _ (HL.out.keep HB3'.out) hlen).mono ?_
  rintro e w4 ⟨bx, rfl, hbx, hO4, hb4⟩
  have p4 := cell_later hb4 p3
  have r4 := cell_later hb4 r3
  have hPb : P < bx := Nat.lt_of_lt_of_le (World.block_lt_of_cell? _ _ p3) hbx
  have HB4 : Hid (Below w.heap.size w w4) := HB3'.out.trans (hb4.mono HB3'.out.size)
  have HX4 : Hid (OwnE w4 w.heap.size bx len len L) := hO4.mono HB3'.out.size
  have HW4 : Hid (OwnO w4 w.heap.size aw n cw F) := HO3'.out.below hb4
  clear hO4 hb4 p3 r3 hbx HB3' HO3'
  go_wp2_with fail
  refine (CI.out bx _ HX4.out.entsAt).mono ?_
  rintro e w5 ⟨ag, ng, cg, rfl, hO5, hb5⟩
  obtain rfl : ng = n := by have h1 := hO5.len; have h2 := HW4.out.len; omega
  have hbx4 := HX4.out.lt.2
  have hP4 := World.block_lt_of_cell? _ _ p4
  simp only at hP4
  have p5 := cell_later hb5 p4
  have r5 := cell_later hb5 r4
  have HAG : Hid (∀ x, ag = some x → w4.heap.size ≤ x.block ∧ x.block < w5.heap.size) := fun x e => hO5.lt x e
  have HB5 : Hid (Below w.heap.size w w5) := HB4.out.trans (hb5.mono HB4.out.size)
  have HX5 : Hid (OwnE w5 w.heap.size bx len len L) := HX4.out.below hb5
  have HW5 : Hid (OwnO w5 w.heap.size aw ng cw F) := HW4.out.below hb5
  have HG5 : Hid (OwnO w5 w.heap.size ag ng cg F) := hO5.mono HB4.out.size
  have hz5 := hb5.size
  clear hO5 hb5 p4 r4 HB4 HX4 HW4
  obtain ⟨Q, hQ⟩ : ∃ Q, Q = w5.heap.size := ⟨_, rfl⟩
  obtain ⟨W5, hW5⟩ : ∃ W, W = w5.alloc (.cells #[.slice ag ng cg, .int .i64 m] 26) := ⟨_, rfl⟩
  have k5 : Below w5.heap.size w5 W5 := by rw [hW5]; exact (Below.refl _ _).alloc (Nat.le_refl _) _
  have HS : Hid (OfSt w W5 P Q bx aw ag len ng cw cg m L F F) := ⟨HB5.out.trans (k5.mono HB5.out.size), cell_later k5 p5, cell_later k5 r5, by rw [hW5, hQ]; simp, by rw [hW5, hQ]; simp, HX5.out.below k5, HW5.out.below k5, HG5.out.below k5⟩
  have HN1 : Hid (P ≠ bx ∧ Q ≠ bx ∧ P ≠ Q) := ⟨by omega, by omega, by omega⟩
  have HN2 : Hid (∀ y, aw = some y → y.block ≠ bx) := fun y e => by have := HAW.out y e; omega
  have HN3 : Hid (∀ x, ag = some x → x.block ≠ P ∧ x.block ≠ Q ∧ x.block ≠ bx) := fun x e => by have := HAG.out x e; omega
  have HN4 : Hid (∀ x y, ag = some x → aw = some y → x.block ≠ y.block) := fun x y e e' => by have := HAG.out x e; have := HAW.out y e'; omega
  have u0 := HS.out.p0
  have u1 := HS.out.p1
  have v0 := HS.out.q0
  have v1 := HS.out.q1
  have zP := HS.out.ltP
  have zQ := HS.out.ltQ
  have zP5 := World.block_lt_of_cell? _ _ p5
  simp only at zP5
  have nP5 : P ≠ w5.heap.size := Nat.ne_of_lt zP5
  go_wp2_with fail
  rw [← hW5, ← hQ]
  clear zP5 nP5 k5 hW5 hQ HB5 HX5 HW5 HG5 p5 r5 hz5 hbx4 hP4 hPb HAG HAW
  refine (eqRunO m _ _ _ _ _ F _ HS.out.og.entsAt HS.out.ow.entsAt).mono ?_
  rintro e w6 ⟨rfl, hb6⟩
  have HS6 : Hid (OfSt w w6 P Q bx aw ag len ng cw cg m L F F) := HS.out.below hb6
  clear HS hb6 u0 u1 v0 v1 zP zQ
  go_wp2_with fail
  refine (toEntS_ex _ _ _ L _ (HL.out.keep HS6.out.low) hlen).mono ?_
  rintro e w7 ⟨b7, rfl, _, hO7, hb7⟩
  have HS7 : Hid (OfSt w w7 P Q bx aw ag len ng cw cg m L F F) := HS6.out.below hb7
  have HO7 : Hid (EntsAt w7 (some ⟨b7, 0, none⟩) len len L) := hO7.entsAt
  clear HS6 hb7 hO7
  go_wp2_with fail
  refine (eqEntS_opt _ _ _ _ _ L _ HS7.out.ox.entsAt HO7.out).mono ?_
  rintro e w8 ⟨rfl, hb8⟩
  have HS8 : Hid (OfSt w w8 P Q bx aw ag len ng cw cg m L F F) := HS7.out.below hb8
  clear HS7 hb8 HO7
  go_wp2_with fail
  refine (markE_any w.heap.size bx len len 1 L _ HS8.out.ox (by omega) (by omega)).mono ?_
  rintro e w9 ⟨rfl, hO9, hg9⟩
  have HS9 : Hid (OfSt w w9 P Q bx aw ag len ng cw cg m (markL 1 len) F F) := HS8.out.markX hg9 hO9 HN1.out.1 HN1.out.2.1 HN2.out (fun x e => (HN3.out x e).2.2)
  clear HS8 hO9 hg9
  have hk9 : ¬ ((1 + 5 * len : Nat) : Int) < 0 := by omega
  obtain ⟨kv, hkv⟩ : ∃ kv : Int, kv = ((1 + 5 * len : Nat) : Int) := ⟨_, rfl⟩
  rw [← hkv] at hk9 ⊢
  clear hkv
  have u0 := HS9.out.p0
  have u1 := HS9.out.p1
  have v0 := HS9.out.q0
  have v1 := HS9.out.q1
  have zP := HS9.out.ltP
  have zQ := HS9.out.ltQ
  go_wp2_with fail
  refine (eqRunO m _ _ _ _ _ F _ HS9.out.og.entsAt HS9.out.ow.entsAt).mono ?_
  rintro e w10 ⟨rfl, hb10⟩
  have HS10 : Hid (OfSt w w10 P Q bx aw ag len ng cw cg m (markL 1 len) F F) := HS9.out.below hb10
  clear hb10 HS9 u0 u1 v0 v1 zP zQ
  have v0 := HS10.out.q0
  have v1 := HS10.out.q1
  have zQ := HS10.out.ltQ
  go_wp2_with fail
  refine (markRunO w.heap.size ag ng cg m F _ HS10.out.og (by omega)).mono ?_
  rintro e w11 ⟨rfl, hO11, hg11⟩
  have HS11 : Hid (OfSt w w11 P Q bx aw ag len ng cw cg m (markL 1 len) F (markL 1 ng)) := HS10.out.markG hg11 hO11 HN3.out HN4.out
  clear HS10 hO11 hg11 v0 v1 zQ
  obtain ⟨mv, hmv⟩ : ∃ mv : Int, mv = ((1 + 5 * ng : Nat) : Int) := ⟨_, rfl⟩
  have hm0 : ¬ mv < 0 := by omega
  have CH : Hid (∀ w', OwnO w' w.heap.size ag ng cg (markL 1 ng) → Calls Try.prog 16 #[.agg #[.slice ag ng cg, .int .i64 m], .int .i64 1] w' fun e w'' => e = .returned (.int .i64 mv) ∧ Below w'.heap.size w' w'') := by rw [hmv]; exact fun w' h => heldRunO w.heap.size ag ng cg m w' h (by omega)
  rw [← hmv]
  clear hmv
  have v0 := HS11.out.q0
  have v1 := HS11.out.q1
  have zQ := HS11.out.ltQ
  go_wp2_with fail
  refine (CH.out _ HS11.out.og).mono ?_
  rintro e w12 ⟨rfl, hb12⟩
  have HS12 : Hid (OfSt w w12 P Q bx aw ag len ng cw cg m (markL 1 len) F (markL 1 ng)) := HS11.out.below hb12
  clear HS11 hb12 v0 v1 zQ
  go_wp2_with fail
  refine (toEntS_ex _ _ _ L _ (HL.out.keep HS12.out.low) hlen).mono ?_
  rintro e w13 ⟨b13, rfl, _, hO13, hb13⟩
  have HS13 : Hid (OfSt w w13 P Q bx aw ag len ng cw cg m (markL 1 len) F (markL 1 ng)) := HS12.out.below hb13
  have HO13 : Hid (EntsAt w13 (some ⟨b13, 0, none⟩) len len L) := hO13.entsAt
  clear HS12 hb13 hO13
  go_wp2_with fail
  refine (CI.out b13 _ HO13.out).mono ?_
  rintro e w14 ⟨ah, nh, ch, rfl, hO14, hb14⟩
  have HS14 : Hid (OfSt w w14 P Q bx aw ag len ng cw cg m (markL 1 len) F (markL 1 ng)) := HS13.out.below hb14
  obtain rfl : nh = ng := by have h1 := hO14.len; have h2 := HS14.out.ow.len; omega
  obtain ⟨V, hV⟩ : ∃ V, V = w14.heap.size := ⟨_, rfl⟩
  obtain ⟨W14, hW14⟩ : ∃ W, W = w14.alloc (.cells #[.slice ah nh ch, .int .i64 m] 26) := ⟨_, rfl⟩
  have k14 : Below w14.heap.size w14 W14 := by rw [hW14]; exact (Below.refl _ _).alloc (Nat.le_refl _) _
  have HS14' : Hid (OfSt w W14 P Q bx aw ag len nh cw cg m (markL 1 len) F (markL 1 nh)) := HS14.out.below k14
  have HO14 : Hid (EntsAt W14 ah nh ch F) := hO14.entsAt.keep k14
  have u0 := HS14'.out.p0
  have u1 := HS14'.out.p1
  have v0 : W14.cell? ⟨V, 0, none⟩ = some (.slice ah nh ch) := by rw [hW14, hV]; simp
  have v1 : W14.cell? ⟨V, 1, none⟩ = some (.int .i64 m) := by rw [hW14, hV]; simp
  have zP := HS14'.out.ltP
  have zV := World.block_lt_of_cell? _ _ v0
  simp only at zV
  have hPV : P ≠ V := by rw [hV]; exact Nat.ne_of_lt HS14.out.ltP
  have t0 := HS14.out.p0
  have t1 := HS14.out.p1
  have tP := HS14.out.ltP
  clear HS13 hb14 hO14 HO13
  go_wp2_with fail
  rw [← hW14, ← hV]
  clear k14 hW14 hV HS14 t0 t1 tP
  refine (eqRunO m _ _ _ _ _ F _ HO14.out HS14'.out.ow.entsAt).mono ?_
  rintro e w15 ⟨rfl, hb15⟩
  have HS15 : Hid (OfSt w w15 P Q bx aw ag len nh cw cg m (markL 1 len) F (markL 1 nh)) := HS14'.out.below hb15
  clear HS14' hb15 HO14 u0 u1 v0 v1 zP zV hPV
  have v0 := HS15.out.q0
  have v1 := HS15.out.q1
  have zQ := HS15.out.ltQ
  go_wp2_with fail
  refine (CH.out _ HS15.out.og).mono ?_
  rintro e w16 ⟨rfl, hb16⟩
  have HB16 : Hid (Below w.heap.size w w16) := (HS15.out.below hb16).low
  clear HS15 hb16 v0 v1 zQ
  go_wp2
  go_ret
  exact ⟨rfl, HB16.out⟩
end Go.Proofs.Ytflnbkncigifaaa
