/-
  The walk of the law FnExactTreeAll: it answers true at every tree.
-/
import Derived.Test.YthhiahjafhkbbaaGreatBn47
import Derived.Test.YthhiahjafhkbbaaGreatBn49
import Derived.Test.YthhiahjafhkbbaaGreatBn50
import Derived.Test.YthhiahjafhkbbaaGreatBn43
namespace Go.Proofs.YthhiahjafhkbbaaGreat
open Go.RowKit

theorem TreeIn.low0 {lo : Nat} {w : World} {am av ak : Option Addr} {nm cm nv cv ns cs : Nat} {M : List EntD} {V : List (List RunD)} {S : List Int} (h : TreeIn lo w am nm cm av nv cv ak ns cs M V S) : TreeIn 0 w am nm cm av nv cv ak ns cs M V S := ⟨h.mem.mono (Nat.zero_le _), h.levels.mono (Nat.zero_le _), h.snaps.lower (Nat.zero_le _)⟩
/-- What lies where, between two calls of the law. -/
structure TaSt (w wi : World) (X gw : Nat) (u0 u1 u2 u3 : Value) (ag : Option Addr) (n cw : Nat) (F G : List EntD) : Prop where
  low : Below w.heap.size w wi
  bx : Box4 wi X u0 u1 u2 u3
  ow : OwnE wi w.heap.size gw n cw F
  og : OwnO wi w.heap.size ag n n G
theorem TaSt.below {w wi wj : World} {X gw : Nat} {u0 u1 u2 u3 : Value} {ag : Option Addr} {n cw : Nat} {F G : List EntD} (h : TaSt w wi X gw u0 u1 u2 u3 ag n cw F G) (hb : Below wi.heap.size wi wj) : TaSt w wj X gw u0 u1 u2 u3 ag n cw F G :=
  ⟨h.low.trans (hb.mono h.low.size), h.bx.keep hb, h.ow.below hb, h.og.below hb⟩
theorem TaSt.markT {w wi wj : World} {X gw lo hi : Nat} {u0 u1 u2 u3 : Value} {ag : Option Addr} {n cw : Nat} {F G : List EntD} (h : TaSt w wi X gw u0 u1 u2 u3 ag n cw F G) (hk : MarkT lo hi wi wj) (hl : w.heap.size ≤ lo) (hX : X < lo) (hg : gw < lo) (ha : ∀ x, ag = some x → hi ≤ x.block) : TaSt w wj X gw u0 u1 u2 u3 ag n cw F G := by
  have hwl : lo ≤ wi.heap.size ∨ wi.heap.size < lo := by omega
  refine ⟨h.low.trans (hk.below hl h.low.size), ?_, hk.ownE h.ow (.inl hg), ⟨h.og.nil, fun x e => ?_⟩⟩
  · rcases hwl with hwl | hwl
    · exact h.bx.below (hk.below (Nat.le_refl _) hwl) hX
    · exact h.bx.below (hk.below (B := wi.heap.size) (by omega) (Nat.le_refl _)) h.bx.lt
  · obtain ⟨g, rfl, h2⟩ := h.og.own x e
    exact ⟨g, rfl, hk.ownE h2 (.inr (ha _ e))⟩
theorem TaSt.markG {w wi wj : World} {X gw : Nat} {u0 u1 u2 u3 : Value} {ag : Option Addr} {n cw : Nat} {F G G' : List EntD} (h : TaSt w wi X gw u0 u1 u2 u3 ag n cw F G) (hg : wi.grownBy wj (ag.map Addr.block)) (hx : OwnO wj w.heap.size ag n n G') (n1 : ∀ x, ag = some x → X < x.block ∧ gw < x.block) : TaSt w wj X gw u0 u1 u2 u3 ag n cw F G' := by
  have key : ∀ Y, (∀ x, ag = some x → Y < x.block) → some Y ≠ ag.map Addr.block := fun Y hY e => by
    cases hag : ag with
    | none => rw [hag] at e; cases e
    | some x => rw [hag] at e; have h1 := hY x hag; have h2 : Y = x.block := by simpa using e
                omega
  refine ⟨h.low.grown hg h.low.size (fun k e => ?_), ?_, h.ow.grown hg (key gw fun x e => (n1 x e).2), hx⟩
  · cases hag : ag with
    | none => rw [hag] at e; cases e
    | some x => rw [hag] at e; have := (h.og.lt x hag).1; cases e; exact this
  · have hb : Below (X + 1) wi wj := ⟨hg.os, hg.tape, hg.output, hg.size, fun q hq => hg.block q (by have := h.bx.lt; omega) (key q fun x e => by have := (n1 x e).1; omega)⟩
    exact h.bx.below hb (Nat.lt_succ_self _)

set_option maxRecDepth 100000 in
set_option maxHeartbeats 4000000 in
theorem walkFnExactTreeAll (q1 : Int) (m1 : Option Addr) (nm1 cm1 : Nat) (v1 : Option Addr) (nv1 cv1 : Nat) (k1 : Option Addr) (ns1 cs1 : Nat) (M1 : List EntD) (V1 : List (List RunD)) (S1 : List Int) (w : World) (w0 : (Lit.int .i64 q1).wf = true ∧ TreeIn 0 w m1 nm1 cm1 v1 nv1 cv1 k1 ns1 cs1 M1 V1 S1) :
    Calls Tryz.prog 6 #[.agg #[.int .i64 q1, .slice m1 nm1 cm1, .slice v1 nv1 cv1, .slice k1 ns1 cs1]] w fun e w' => e = .returned (.bool true) ∧ Below w.heap.size w w' := by
  obtain ⟨_, hT1⟩ := w0
  have H1 : Hid (TreeIn 0 w m1 nm1 cm1 v1 nv1 cv1 k1 ns1 cs1 M1 V1 S1) := hT1
  have HML : Hid (M1.length = nm1) := hT1.mem.1.length
  have HVL : Hid (V1.length = nv1) := hT1.levels.length
  have HSL : Hid (S1.length = ns1) := hT1.snaps.length
  clear hT1
  obtain ⟨F, hF⟩ : ∃ F, F = allL q1 M1 V1 S1 := ⟨_, rfl⟩
  have HFL : Hid (F.length ≤ M1.length + (szV V1 + V1.length)) := by rw [hF]; exact allL_len
  have CS : Hid (∀ (am av ak : Option Addr) (cm cv ck : Nat) (w' : World), TreeIn 0 w' am nm1 cm av nv1 cv ak ns1 ck M1 V1 S1 → M1.length + (szV V1 + V1.length) ≤ 1048576 → Calls Tryz.prog 22 #[.agg #[.int .i64 q1, .slice am nm1 cm, .slice av nv1 cv, .slice ak ns1 ck]] w' fun e w'' => ∃ g n c, e = .returned (.slice (some ⟨g, 0, none⟩) n c) ∧ OwnE w'' w'.heap.size g n c F ∧ Below w'.heap.size w' w'') := by
    rw [hF]
    exact fun am av ak cm cv ck w' h hz => specTreeAll 0 q1 _ _ _ _ _ _ _ _ _ M1 V1 S1 w' h hz
  have CI : Hid (M1.length + (szV V1 + V1.length) ≤ 1048576 → (∀ e ∈ M1, SmT e) → (∀ B ∈ V1, SmB B) → ∀ (am av ak : Option Addr) (cm cv ck : Nat) (w' : World), TreeIn 0 w' am nm1 cm av nv1 cv ak ns1 ck M1 V1 S1 → Calls Tryz.prog 23 #[.agg #[.int .i64 q1, .slice am nm1 cm, .slice av nv1 cv, .slice ak ns1 ck]] w' (AllR w' F)) := by
    rw [hF]
    exact fun hz hm hv am av ak cm cv ck w' h => implTreeAll 0 q1 _ _ _ _ _ _ _ _ _ M1 V1 S1 w' h hz hm hv
  clear hF
  obtain ⟨X, hX⟩ : ∃ X, X = w.heap.size := ⟨_, rfl⟩
  obtain ⟨W, hW⟩ : ∃ W, W = w.alloc (.cells #[.int .i64 q1, .slice m1 nm1 cm1, .slice v1 nv1 cv1, .slice k1 ns1 cs1] 40) := ⟨_, rfl⟩
  have kW : Below w.heap.size w W := by rw [hW]; exact (Below.refl _ _).alloc (Nat.le_refl _) _
  have bx : Box4 W X (.int .i64 q1) (.slice m1 nm1 cm1) (.slice v1 nv1 cv1) (.slice k1 ns1 cs1) := by rw [hW, hX]; exact Box4.new _ _ _ _ _ _
  have K0 : Hid (Below w.heap.size w W) := kW
  have BX : Hid (Box4 W X (.int .i64 q1) (.slice m1 nm1 cm1) (.slice v1 nv1 cv1) (.slice k1 ns1 cs1)) := bx
  clear kW bx
  go_enter Tryz.func6, Tryz.ntmps6
  go_wp2_with fail
  rw [← hX, ← hW]
  clear hW hX
  refine (szTree_sum _ 0 _ _ _ _ _ _ _ _ _ M1 V1 S1 _ _ (H1.out.keep K0.out) (by omega) (by omega)).mono ?_
  rintro e w4 ⟨r, rfl, hr, hb3⟩
  have K4 : Hid (Below w.heap.size w w4) := K0.out.trans (hb3.mono K0.out.size)
  have BX4 : Hid (Box4 w4 X (.int .i64 q1) (.slice m1 nm1 cm1) (.slice v1 nv1 cv1) (.slice k1 ns1 cs1)) := BX.out.keep hb3
  clear hb3 BX K0
  rcases hr with rfl | ⟨hr0, hr1, hsm, hsv⟩
  · go_wp2
    go_ret
    exact ⟨rfl, K4.out⟩
  have HSUM : Hid (M1.length + (szV V1 + V1.length) + S1.length ≤ 1048576) := by show _ ≤ _; omega
  have hsz : M1.length + (szV V1 + V1.length) ≤ 1048576 := by have := HSUM.out; omega
  have CI : Hid (∀ (am av ak : Option Addr) (cm cv ck : Nat) (w' : World), TreeIn 0 w' am nm1 cm av nv1 cv ak ns1 ck M1 V1 S1 → Calls Tryz.prog 23 #[.agg #[.int .i64 q1, .slice am nm1 cm, .slice av nv1 cv, .slice ak ns1 ck]] w' (AllR w' F)) := CI.out hsz hsm hsv
  have CS : Hid (∀ (am av ak : Option Addr) (cm cv ck : Nat) (w' : World), TreeIn 0 w' am nm1 cm av nv1 cv ak ns1 ck M1 V1 S1 → Calls Tryz.prog 22 #[.agg #[.int .i64 q1, .slice am nm1 cm, .slice av nv1 cv, .slice ak ns1 ck]] w' fun e w'' => ∃ g n c, e = .returned (.slice (some ⟨g, 0, none⟩) n c) ∧ OwnE w'' w'.heap.size g n c F ∧ Below w'.heap.size w' w'') := fun am av ak cm cv ck w' h => CS.out am av ak cm cv ck w' h hsz
  have SM1 : Hid (SmallT M1 V1 S1) := small_of_sum HSUM.out
  have HFZ : Hid (F.length ≤ 1048576) := Nat.le_trans HFL.out hsz
  clear hsm hsv hr1 hsz
  have x0 := BX4.out.c0
  have x1 := BX4.out.c1
  have x2 := BX4.out.c2
  have x3 := BX4.out.c3
  have xz := BX4.out.lt
  go_wp2_with fail
  clear x0 x1 x2 x3 xz
  refine (toTree_any q1 0 _ _ _ _ _ _ _ _ _ M1 V1 S1 _ (H1.out.keep K4.out) SM1.out).mono ?_
  rintro e w5 ⟨a5, b5, c5, rfl, hT5, hb5⟩
  have K5 : Hid (Below w.heap.size w w5) := K4.out.trans (hb5.mono K4.out.size)
  have BX5 : Hid (Box4 w5 X (.int .i64 q1) (.slice m1 nm1 cm1) (.slice v1 nv1 cv1) (.slice k1 ns1 cs1)) := BX4.out.keep hb5
  have T5 : Hid (TreeIn 0 w5 (some ⟨a5, 0, none⟩) nm1 nm1 (some ⟨b5, 0, none⟩) nv1 nv1 (some ⟨c5, 0, none⟩) ns1 ns1 M1 V1 S1) := hT5.low0
  clear hb5 hT5 BX4 K4
  go_wp2_with fail
  refine (CS.out _ _ _ _ _ _ _ T5.out).mono ?_
  rintro e w6 ⟨gw, n, cw, rfl, hO6, hb6⟩
  have K6 : Hid (Below w.heap.size w w6) := K5.out.trans (hb6.mono K5.out.size)
  have BX6 : Hid (Box4 w6 X (.int .i64 q1) (.slice m1 nm1 cm1) (.slice v1 nv1 cv1) (.slice k1 ns1 cs1)) := BX5.out.keep hb6
  have HO6 : Hid (OwnE w6 w.heap.size gw n cw F) := hO6.mono K5.out.size
  have HXG : Hid (X < gw) := Nat.lt_of_lt_of_le BX5.out.lt hO6.lt.1
  have hn : n ≤ 1048576 := by have h1 := hO6.len; have h2 := HFZ.out; omega
  clear hb6 BX5 K5 T5 hO6
  have x0 := BX6.out.c0
  have x1 := BX6.out.c1
  have x2 := BX6.out.c2
  have x3 := BX6.out.c3
  have xz := BX6.out.lt
  go_wp2_with fail
  clear x0 x1 x2 x3 xz
  refine (toTree_bl q1 0 _ _ _ _ _ _ _ _ _ M1 V1 S1 _ (H1.out.keep K6.out) SM1.out).mono ?_
  rintro e w8 ⟨a8, b8, c8, rfl, hT8, hB8, hb8⟩
  obtain ⟨Y, hY⟩ : ∃ Y, Y = w8.heap.size := ⟨_, rfl⟩
  obtain ⟨lo, hlo⟩ : ∃ lo, lo = w6.heap.size := ⟨_, rfl⟩
  obtain ⟨W8, hW8⟩ : ∃ W8, W8 = w8.alloc (.cells #[.int .i64 q1, .slice (some ⟨a8, 0, none⟩) nm1 nm1, .slice (some ⟨b8, 0, none⟩) nv1 nv1, .slice (some ⟨c8, 0, none⟩) ns1 ns1] 44) := ⟨_, rfl⟩
  have k8 : Below w8.heap.size w8 W8 := by rw [hW8]; exact (Below.refl _ _).alloc (Nat.le_refl _) _
  have K8 : Hid (Below w.heap.size w W8) := (K6.out.trans (hb8.mono K6.out.size)).trans (k8.mono (Nat.le_trans K6.out.size hb8.size))
  have T8 : Hid (TreeIn 0 W8 (some ⟨a8, 0, none⟩) nm1 nm1 (some ⟨b8, 0, none⟩) nv1 nv1 (some ⟨c8, 0, none⟩) ns1 ns1 M1 V1 S1) := (hT8.low0).keep k8
  have B8 : Hid (TreeBl lo Y W8 a8 nm1 b8 V1 c8 ns1) := by rw [hlo, hY]; exact hB8.mark (MarkT.of_below (lo := 0) (hi := 0) k8)
  have BX8 : Hid (Box4 W8 X (.int .i64 q1) (.slice m1 nm1 cm1) (.slice v1 nv1 cv1) (.slice k1 ns1 cs1)) := (BX6.out.keep hb8).keep k8
  have BY8 : Hid (Box4 W8 Y (.int .i64 q1) (.slice (some ⟨a8, 0, none⟩) nm1 nm1) (.slice (some ⟨b8, 0, none⟩) nv1 nv1) (.slice (some ⟨c8, 0, none⟩) ns1 ns1)) := by rw [hW8, hY]; exact Box4.new _ _ _ _ _ _
  have HO8 : Hid (OwnE W8 w.heap.size gw n cw F) := (HO6.out.below hb8).below k8
  have HLO : Hid (w.heap.size ≤ lo ∧ X < lo ∧ gw < lo) := by rw [hlo]; exact ⟨K6.out.size, BX6.out.lt, HO6.out.lt.2⟩
  have HYW : Hid (Y ≤ W8.heap.size) := by rw [hY]; exact k8.size
  clear hb8 hT8 hB8 BX6 K6 k8 HO6 hlo
  go_wp2_with fail
  rw [← hW8]
  try rw [← hY]
  clear hW8 hY
  refine (CI.out _ _ _ _ _ _ _ T8.out).mono ?_
  rintro e w12 ⟨⟨ag, ng, rfl, hO12⟩, hb12⟩
  obtain rfl : ng = n := by have h1 := hO12.len; have h2 := HO8.out.len; omega
  have HAG : Hid (∀ x, ag = some x → Y ≤ x.block ∧ X < x.block ∧ gw < x.block) := fun x e => by
    have h1 := (hO12.lt x e).1
    have h2 := HYW.out
    have h3 := BX8.out.lt
    have h4 := HO8.out.lt.2
    omega
  have ST12 : Hid (TaSt w w12 X gw (.int .i64 q1) (.slice m1 nm1 cm1) (.slice v1 nv1 cv1) (.slice k1 ns1 cs1) ag ng cw F F) := ⟨K8.out.trans (hb12.mono K8.out.size), BX8.out.keep hb12, HO8.out.below hb12, hO12.mono K8.out.size⟩
  have T12 : Hid (TreeIn 0 w12 (some ⟨a8, 0, none⟩) nm1 nm1 (some ⟨b8, 0, none⟩) nv1 nv1 (some ⟨c8, 0, none⟩) ns1 ns1 M1 V1 S1) := T8.out.keep hb12
  have B12 : Hid (TreeBl lo Y w12 a8 nm1 b8 V1 c8 ns1) := B8.out.mark (MarkT.of_below (lo := 0) (hi := 0) hb12)
  have BY12 : Hid (Box4 w12 Y (.int .i64 q1) (.slice (some ⟨a8, 0, none⟩) nm1 nm1) (.slice (some ⟨b8, 0, none⟩) nv1 nv1) (.slice (some ⟨c8, 0, none⟩) ns1 ns1)) := BY8.out.keep hb12
  clear hb12 BX8 BY8 K8 T8 B8 HO8 hO12 HYW
  go_wp2_with fail
  refine (eqEntS_opt _ _ _ _ _ F _ ST12.out.og.entsAt ST12.out.ow.entsAt).mono ?_
  rintro e w13 ⟨rfl, hb13⟩
  have ST13 : Hid (TaSt w w13 X gw (.int .i64 q1) (.slice m1 nm1 cm1) (.slice v1 nv1 cv1) (.slice k1 ns1 cs1) ag ng cw F F) := ST12.out.below hb13
  have T13 : Hid (TreeIn 0 w13 (some ⟨a8, 0, none⟩) nm1 nm1 (some ⟨b8, 0, none⟩) nv1 nv1 (some ⟨c8, 0, none⟩) ns1 ns1 M1 V1 S1) := T12.out.keep hb13
  have B13 : Hid (TreeBl lo Y w13 a8 nm1 b8 V1 c8 ns1) := B12.out.mark (MarkT.of_below (lo := 0) (hi := 0) hb13)
  have BY13 : Hid (Box4 w13 Y (.int .i64 q1) (.slice (some ⟨a8, 0, none⟩) nm1 nm1) (.slice (some ⟨b8, 0, none⟩) nv1 nv1) (.slice (some ⟨c8, 0, none⟩) ns1 ns1)) := BY12.out.keep hb13
  clear hb13 ST12 T12 B12 BY12
  go_wp2_with fail
  have k0 : Below w13.heap.size w13 w13.drew := (Below.refl _ w13).drew
  have HMK : Hid (∀ w', Below w13.heap.size w13 w' → (fun w' => w'.cell? ⟨Y, 0, none⟩ = some (.int .i64 q1) ∧ w'.cell? ⟨Y, 1, none⟩ = some (.slice (some ⟨a8, 0, none⟩) nm1 nm1) ∧ w'.cell? ⟨Y, 2, none⟩ = some (.slice (some ⟨b8, 0, none⟩) nv1 nv1) ∧ w'.cell? ⟨Y, 3, none⟩ = some (.slice (some ⟨c8, 0, none⟩) ns1 ns1) ∧ Y < w'.heap.size ∧ w'.cell? ⟨X, 0, none⟩ = some (.int .i64 q1) ∧ w'.cell? ⟨X, 1, none⟩ = some (.slice m1 nm1 cm1) ∧ w'.cell? ⟨X, 2, none⟩ = some (.slice v1 nv1 cv1) ∧ w'.cell? ⟨X, 3, none⟩ = some (.slice k1 ns1 cs1) ∧ X < w'.heap.size) w') := fun w' kk => ⟨cell_later kk BY13.out.c0, cell_later kk BY13.out.c1, cell_later kk BY13.out.c2, cell_later kk BY13.out.c3, Nat.lt_of_lt_of_le BY13.out.lt kk.size, cell_later kk ST13.out.bx.c0, cell_later kk ST13.out.bx.c1, cell_later kk ST13.out.bx.c2, cell_later kk ST13.out.bx.c3, Nat.lt_of_lt_of_le ST13.out.bx.lt kk.size⟩
  refine wp_region_held_drew (S := (fun w' => w'.cell? ⟨Y, 0, none⟩ = some (.int .i64 q1) ∧ w'.cell? ⟨Y, 1, none⟩ = some (.slice (some ⟨a8, 0, none⟩) nm1 nm1) ∧ w'.cell? ⟨Y, 2, none⟩ = some (.slice (some ⟨b8, 0, none⟩) nv1 nv1) ∧ w'.cell? ⟨Y, 3, none⟩ = some (.slice (some ⟨c8, 0, none⟩) ns1 ns1) ∧ Y < w'.heap.size ∧ w'.cell? ⟨X, 0, none⟩ = some (.int .i64 q1) ∧ w'.cell? ⟨X, 1, none⟩ = some (.slice m1 nm1 cm1) ∧ w'.cell? ⟨X, 2, none⟩ = some (.slice v1 nv1 cv1) ∧ w'.cell? ⟨X, 3, none⟩ = some (.slice k1 ns1 cs1) ∧ X < w'.heap.size)) (by kernel_rfl) (HMK.out _ k0) (fun hHeld => ?_)
  refine wpAnyH_takeL (i := 0) (v := ?_) rfl (by kernel_rfl) (by kernel_rfl) (by kernel_rfl) (fun _ _ _ h => h) (Or.inl ⟨by rfl, ?_⟩) hHeld ?_
  rotate_left
  · (intro w hSw; (try dsimp only at hSw); go_simp; try with_reducible rfl)
  try go_frame
  refine wpAnyH_takeL (i := 1) (v := ?_) rfl (by kernel_rfl) (by kernel_rfl) (by kernel_rfl) (fun _ _ _ h => h) (Or.inl ⟨by rfl, ?_⟩) hHeld ?_
  rotate_left
  · (intro w hSw; (try dsimp only at hSw); go_simp; try with_reducible rfl)
  try go_frame
  refine wpAnyH_ready (rs := [2]) (by kernel_rfl) (by simp) ?_
  refine consL rfl (fun K hK => ?_) AllReadyH.nil
  go_simp
  refine (toTree_any q1 0 m1 v1 k1 nm1 cm1 nv1 cv1 ns1 cs1 M1 V1 S1 _ (H1.out.keep (ST13.out.low.trans (k0.mono ST13.out.low.size))) SM1.out).mono ?_
  rintro e w14 ⟨a14, b14, c14, rfl, hT14, hb14⟩
  have k1' : Below w13.heap.size w13 w14 := k0.trans (hb14.mono k0.size)
  have T14 : Hid (TreeIn 0 w14 (some ⟨a14, 0, none⟩) nm1 nm1 (some ⟨b14, 0, none⟩) nv1 nv1 (some ⟨c14, 0, none⟩) ns1 ns1 M1 V1 S1) := hT14.low0
  clear hT14
  go_wp2_with fail
  refine hK.out _ _ (HMK.out _ k1') (fun hHeld => ?_)
  clear hK K
  try go_frame
  refine wpAnyH_ready (rs := [3]) (by kernel_rfl) (by simp) ?_
  refine consL rfl (fun K hK => ?_) AllReadyH.nil
  go_simp
  refine (eqTree_opt q1 0 0 _ _ _ _ _ _ _ _ _ _ _ _ _ _ _ M1 V1 S1 _ (T13.out.keep k1') T14.out).mono ?_
  rintro e w15 ⟨rfl, b15⟩
  have k2 : Below w13.heap.size w13 w15 := k1'.trans (b15.mono k1'.size)
  go_wp2_with fail
  refine hK.out _ _ (HMK.out _ k2) (fun hHeld => ?_)
  clear hK K
  try go_frame
  refine wpAnyH_takeL (i := 4) (v := ?_) rfl (by kernel_rfl) (by kernel_rfl) (by kernel_rfl) (fun _ _ _ h => h) (Or.inl ⟨by rfl, ?_⟩) hHeld ?_
  rotate_left
  · (intro w hSw; (try dsimp only at hSw); go_simp; try with_reducible rfl)
  try go_frame
  refine wpAnyH_done (by kernel_rfl) ?_ _
  have ST15 : Hid (TaSt w w15 X gw (.int .i64 q1) (.slice m1 nm1 cm1) (.slice v1 nv1 cv1) (.slice k1 ns1 cs1) ag ng cw F F) := ST13.out.below k2
  have B15 : Hid (TreeBl lo Y w15 a8 nm1 b8 V1 c8 ns1) := B13.out.mark (MarkT.of_below (lo := 0) (hi := 0) k2)
  have BY15 : Hid (Box4 w15 Y (.int .i64 q1) (.slice (some ⟨a8, 0, none⟩) nm1 nm1) (.slice (some ⟨b8, 0, none⟩) nv1 nv1) (.slice (some ⟨c8, 0, none⟩) ns1 ns1)) := BY13.out.keep k2
  have HY15 : Hid (Y ≤ w15.heap.size) := Nat.le_of_lt BY15.out.lt
  clear k0 k1' k2 HMK ST13 T13 B13 BY13 hHeld hb14 b15 T14
  have x0 := BY15.out.c0
  have x1 := BY15.out.c1
  have x2 := BY15.out.c2
  have x3 := BY15.out.c3
  have xz := BY15.out.lt
  have CMK : Hid (Calls Tryz.prog 18 #[.agg #[.int .i64 q1, .slice (some ⟨a8, 0, none⟩) nm1 nm1, .slice (some ⟨b8, 0, none⟩) nv1 nv1, .slice (some ⟨c8, 0, none⟩) ns1 ns1], .int .i64 1] w15 fun e w' => (∃ r : Nat, e = .returned (.int .i64 (r : Int))) ∧ MarkT lo Y w15 w') := by
    have h1 := SM1.out
    have h2 := HML.out
    have h3 := HSL.out
    have h4 := mkV_sz V1
    have h5 := HSUM.out
    exact markTree_bl q1 lo Y a8 nm1 b8 nv1 c8 ns1 1 V1 w15 B15.out HVL.out (by have := h1.1; omega) h1.2.1 (by have := h1.2.2; omega) HY15.out (by omega) (by omega)
  go_wp2_with fail
  clear x0 x1 x2 x3 xz
  refine CMK.out.mono ?_
  rintro e w16 ⟨⟨kv, rfl⟩, hM16⟩
  have ST16 : Hid (TaSt w w16 X gw (.int .i64 q1) (.slice m1 nm1 cm1) (.slice v1 nv1 cv1) (.slice k1 ns1 cs1) ag ng cw F F) := ST15.out.markT hM16 HLO.out.1 HLO.out.2.1 HLO.out.2.2 (fun x e => (HAG.out x e).1)
  clear hM16 ST15 B15 BY15 CMK HY15
  have hkv : ¬ (kv : Int) < 0 := by omega
  go_wp2_with fail
  refine (eqEntS_opt _ _ _ _ _ F _ ST16.out.og.entsAt ST16.out.ow.entsAt).mono ?_
  rintro e w17 ⟨rfl, hb17⟩
  have ST17 : Hid (TaSt w w17 X gw (.int .i64 q1) (.slice m1 nm1 cm1) (.slice v1 nv1 cv1) (.slice k1 ns1 cs1) ag ng cw F F) := ST16.out.below hb17
  clear ST16 hb17
  go_wp2_with fail
  refine (markO_any w.heap.size ag ng ng F _ ST17.out.og (by omega)).mono ?_
  rintro e w18 ⟨rfl, hO18, hg18⟩
  have ST18 : Hid (TaSt w w18 X gw (.int .i64 q1) (.slice m1 nm1 cm1) (.slice v1 nv1 cv1) (.slice k1 ns1 cs1) ag ng cw F (markL 1 ng)) := ST17.out.markG hg18 hO18 (fun x e => (HAG.out x e).2)
  clear ST17 hO18 hg18
  obtain ⟨mv, hmv⟩ : ∃ mv : Int, mv = ((1 + 5 * ng : Nat) : Int) := ⟨_, rfl⟩
  have hm0 : ¬ mv < 0 := by omega
  have CH : Hid (∀ w', OwnO w' w.heap.size ag ng ng (markL 1 ng) → Calls Tryz.prog 26 #[.slice ag ng ng, .int .i64 1] w' fun e w'' => e = .returned (.int .i64 mv) ∧ Below w'.heap.size w' w'') := by rw [hmv]; exact fun w' h => heldO_any w.heap.size ag ng ng w' h (by omega)
  rw [← hmv]
  clear hmv
  go_wp2_with fail
  refine (CH.out _ ST18.out.og).mono ?_
  rintro e w19 ⟨rfl, hb19⟩
  have ST19 : Hid (TaSt w w19 X gw (.int .i64 q1) (.slice m1 nm1 cm1) (.slice v1 nv1 cv1) (.slice k1 ns1 cs1) ag ng cw F (markL 1 ng)) := ST18.out.below hb19
  clear ST18 hb19
  have x0 := ST19.out.bx.c0
  have x1 := ST19.out.bx.c1
  have x2 := ST19.out.bx.c2
  have x3 := ST19.out.bx.c3
  have xz := ST19.out.bx.lt
  go_wp2_with fail
  clear x0 x1 x2 x3 xz
  refine (toTree_any q1 0 _ _ _ _ _ _ _ _ _ M1 V1 S1 _ (H1.out.keep ST19.out.low) SM1.out).mono ?_
  rintro e w20 ⟨a20, b20, c20, rfl, hT20, hb20⟩
  have ST20 : Hid (TaSt w w20 X gw (.int .i64 q1) (.slice m1 nm1 cm1) (.slice v1 nv1 cv1) (.slice k1 ns1 cs1) ag ng cw F (markL 1 ng)) := ST19.out.below hb20
  have T20 : Hid (TreeIn 0 w20 (some ⟨a20, 0, none⟩) nm1 nm1 (some ⟨b20, 0, none⟩) nv1 nv1 (some ⟨c20, 0, none⟩) ns1 ns1 M1 V1 S1) := hT20.low0
  clear ST19 hb20 hT20
  go_wp2_with fail
  refine (CI.out _ _ _ _ _ _ _ T20.out).mono ?_
  rintro e w21 ⟨⟨ah, nh, rfl, hO21⟩, hb21⟩
  have ST21 : Hid (TaSt w w21 X gw (.int .i64 q1) (.slice m1 nm1 cm1) (.slice v1 nv1 cv1) (.slice k1 ns1 cs1) ag ng cw F (markL 1 ng)) := ST20.out.below hb21
  obtain rfl : nh = ng := by have h1 := hO21.len; have h2 := ST21.out.ow.len; omega
  have HO21 : Hid (EntsAt w21 ah nh nh F) := hO21.entsAt
  clear ST20 hb21 hO21 T20
  go_wp2_with fail
  refine (eqEntS_opt _ _ _ _ _ F _ HO21.out ST21.out.ow.entsAt).mono ?_
  rintro e w22 ⟨rfl, hb22⟩
  have ST22 : Hid (TaSt w w22 X gw (.int .i64 q1) (.slice m1 nm1 cm1) (.slice v1 nv1 cv1) (.slice k1 ns1 cs1) ag nh cw F (markL 1 nh)) := ST21.out.below hb22
  clear ST21 hb22 HO21
  go_wp2_with fail
  refine (CH.out _ ST22.out.og).mono ?_
  rintro e w23 ⟨rfl, hb23⟩
  have HB23 : Hid (Below w.heap.size w w23) := (ST22.out.below hb23).low
  clear ST22 hb23
  go_wp2
  go_ret
  exact ⟨rfl, HB23.out⟩
end Go.Proofs.YthhiahjafhkbbaaGreat
