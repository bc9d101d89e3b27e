/-
  A tree in memory of a call's own, every list in a block of its own; the laws' marks on it, and the marks found again; by walks of their Go text.
  The laws' own helpers over a run (its size, its copy, that two are the same), by walks of their Go text.
-/
import Derived.Test.YtlmgojlffgkciaaGreatFz06
import Derived.Test.YtlmgojlffgkciaaGreatFz01
namespace Go.Proofs.YtlmgojlffgkciaaGreat
open Go.RowKit
set_option maxRecDepth 100000
set_option maxHeartbeats 2000000
structure TreeO (lo hi : Nat) (w : World) (b1 nm b2 nv b3 ns : Nat) (M : List EntD) (V : List (List RunD)) (S : List Int) (gs bs : Nat → Nat) (es : Nat → Nat → Nat) : Prop where
  mem : OwnE w lo b1 nm nm M
  levs : LevsO lo hi w b2 nv V gs bs es
  sn : IntsO lo w b3 ns S
  ahead : b1 < bs 0 ∧ b3 < bs 0
theorem IntsO.grown {lo g n : Nat} {w w' : World} {S : List Int} {row : Option Nat} (h : IntsO lo w g n S) (hg : w.grownBy w' row) (hne : some g ≠ row) : IntsO lo w' g n S := ⟨h.1, h.2.kept hg (.inr (by simpa [Value.ownBlock] using hne))⟩
theorem IntsO.keepO {lo lo' hi' g n : Nat} {w w' : World} {S : List Int} (h : IntsO lo w g n S) (k : KeepO lo' hi' w w') (hg : g < lo' ∨ hi' ≤ g) : IntsO lo w' g n S := ⟨h.1, k.row h.2 hg⟩
theorem TreeO.below {lo hi b1 nm b2 nv b3 ns : Nat} {w w' : World} {M : List EntD} {V : List (List RunD)} {S : List Int} {gs bs : Nat → Nat} {es : Nat → Nat → Nat} (h : TreeO lo hi w b1 nm b2 nv b3 ns M V S gs bs es) (hb : Below w.heap.size w w') : TreeO lo hi w' b1 nm b2 nv b3 ns M V S gs bs es :=
  ⟨h.mem.below hb, h.levs.below hb, h.sn.grown (row := none) ⟨hb.os, hb.tape, hb.output, hb.size, fun k hk _ => hb.block k hk⟩ (by simp), h.ahead⟩
theorem TreeO.keepO {lo hi lo' hi' b1 nm b2 nv b3 ns : Nat} {w w' : World} {M : List EntD} {V : List (List RunD)} {S : List Int} {gs bs : Nat → Nat} {es : Nat → Nat → Nat} (h : TreeO lo hi w b1 nm b2 nv b3 ns M V S gs bs es) (k : KeepO lo' hi' w w') (hd : hi' ≤ lo) : TreeO lo hi w' b1 nm b2 nv b3 ns M V S gs bs es := by
  obtain ⟨xs, h1, _⟩ := h.levs.row
  have g2 := (h1.lt b2 rfl).1
  have g1 := h.mem.lt.1
  have g3 := (h.sn.2.lt b3 rfl).1
  have g0 := h.levs.bot.1
  exact ⟨k.own h.mem (by omega), h.levs.keepO k (by omega) (by omega), h.sn.keepO k (by omega), h.ahead⟩
theorem TreeO.apart {lo hi b1 nm b2 nv b3 ns : Nat} {w : World} {M : List EntD} {V : List (List RunD)} {S : List Int} {gs bs : Nat → Nat} {es : Nat → Nat → Nat} (h : TreeO lo hi w b1 nm b2 nv b3 ns M V S gs bs es) : b1 ≠ b2 ∧ b1 ≠ b3 ∧ b2 ≠ b3 := by
  obtain ⟨xs, h1, _⟩ := h.levs.row
  have k1 := blockOf_row h.mem.owns
  have k2 := blockOf_row h1
  have k3 := blockOf_row h.sn.2
  refine ⟨fun e => ?_, fun e => ?_, fun e => ?_⟩ <;> subst e
  · exact absurd (k1.kind k2) (by decide)
  · exact absurd (k1.kind k3) (by decide)
  · exact absurd (k2.kind k3) (by decide)
theorem TreeO.tops {lo hi b1 nm b2 nv b3 ns : Nat} {w : World} {M : List EntD} {V : List (List RunD)} {S : List Int} {gs bs : Nat → Nat} {es : Nat → Nat → Nat} (h : TreeO lo hi w b1 nm b2 nv b3 ns M V S gs bs es) : (lo ≤ b1 ∧ b1 < hi) ∧ (lo ≤ b2 ∧ b2 < hi) ∧ (lo ≤ b3 ∧ b3 < hi) ∧ lo ≤ bs 0 ∧ bs nv ≤ hi ∧ bs 0 ≤ bs nv := by
  obtain ⟨xs, h1, _⟩ := h.levs.row
  have g1 := h.mem.lt.1
  have g2 := (h1.lt b2 rfl).1
  have g3 := (h.sn.2.lt b3 rfl).1
  have u := h.levs.up 0 nv (by omega) (by omega)
  have t := h.levs.top
  have bt := h.levs.bot
  have a := h.ahead
  omega
theorem LevsO.grown {lo hi g G n : Nat} {w w' : World} {V : List (List RunD)} {gs bs : Nat → Nat} {es : Nat → Nat → Nat} (h : LevsO lo hi w G n V gs bs es) (hg : w.grownBy w' (some g)) (hne : G ≠ g) (hl : g < bs 0) : LevsO lo hi w' G n V gs bs es := by
  refine h.keepO (lo' := g) (hi' := g + 1) ⟨hg.os, hg.tape, hg.output, hg.size, fun q hq ho => hg.block q hq (fun e => by have := Option.some.inj e; omega)⟩ (by omega) (by omega)
theorem keep_cell {lo hi : Nat} {w w' : World} (h : KeepO lo hi w w') {b o : Nat} {v : Value} (hb : b < lo ∨ hi ≤ b) (hc : w.cell? ⟨b, o, none⟩ = some v) : w'.cell? ⟨b, o, none⟩ = some v :=
  (World.cell?_of_block (h.block b (World.block_lt_of_cell? _ _ hc) hb)).trans hc
theorem markTree_o (q : Int) (lo hi b1 nm b2 nv b3 ns k : Nat) (M : List EntD) (V : List (List RunD)) (S : List Int) (gs bs : Nat → Nat) (es : Nat → Nat → Nat) (w : World) (hT : TreeO lo hi w b1 nm b2 nv b3 ns M V S gs bs es) (hhi : hi ≤ w.heap.size) (h1 : nm ≤ 1048576) (h0 : nv ≤ 1048576) (h2 : ∀ B ∈ V, B.length ≤ 1048576 ∧ ∀ p ∈ B, p.1.length ≤ 1048576) (h3 : ns ≤ 1048576) (hk : 1 ≤ k) (hn : k + 5 * nm + mkV V + ns ≤ 1000000000) :
    Calls Tryz.prog 15 #[.agg #[.int .i64 q, .slice (some ⟨b1, 0, none⟩) nm nm, .slice (some ⟨b2, 0, none⟩) nv nv, .slice (some ⟨b3, 0, none⟩) ns ns], .int .i64 k] w fun e w' => e = .returned (.int .i64 ((k + 5 * nm + mkV V + ns : Nat) : Int)) ∧ TreeO lo hi w' b1 nm b2 nv b3 ns (markL k nm) (mrkV (k + 5 * nm) V) (mrkS (k + 5 * nm + mkV V) ns) gs bs es ∧ KeepO lo hi w w' := by
  have hz := hT.tops
  have hap := hT.apart
  have hah := hT.ahead
  obtain ⟨Y, hY⟩ : ∃ Y, Y = w.heap.size := ⟨_, rfl⟩
  obtain ⟨W, hW⟩ : ∃ W, W = w.alloc (.cells #[.int .i64 q, .slice (some ⟨b1, 0, none⟩) nm nm, .slice (some ⟨b2, 0, none⟩) nv nv, .slice (some ⟨b3, 0, none⟩) ns ns] 31) := ⟨_, rfl⟩
  have kW : Below w.heap.size w W := by rw [hW]; exact (Below.refl _ _).alloc (Nat.le_refl _) _
  have x2 : W.cell? ⟨Y, 2, none⟩ = some (.slice (some ⟨b2, 0, none⟩) nv nv) := by rw [hW, hY]; simp
  have x3 : W.cell? ⟨Y, 3, none⟩ = some (.slice (some ⟨b3, 0, none⟩) ns ns) := by rw [hW, hY]; simp
  have HT : Hid (TreeO lo hi W b1 nm b2 nv b3 ns M V S gs bs es) := hT.below kW
  have K0 : Hid (KeepO lo hi w W) := KeepO.of_below kW
  have HYH : Hid (hi ≤ Y) := by rw [hY]; exact hhi
  have HZ : Hid ((lo ≤ b1 ∧ b1 < hi) ∧ (lo ≤ b2 ∧ b2 < hi) ∧ (lo ≤ b3 ∧ b3 < hi) ∧ lo ≤ bs 0 ∧ bs nv ≤ hi ∧ bs 0 ≤ bs nv) := hz
  have HAP : Hid (b1 ≠ b2 ∧ b1 ≠ b3 ∧ b2 ≠ b3) := hap
  have HAH : Hid (b1 < bs 0 ∧ b3 < bs 0) := hah
  have hn1 : k + 5 * nm ≤ 1000000000 := by omega
  obtain ⟨K1, hK1⟩ : ∃ K1 : Nat, K1 = k + 5 * nm := ⟨_, rfl⟩
  obtain ⟨K2, hK2⟩ : ∃ K2 : Nat, K2 = K1 + mkV V := ⟨_, rfl⟩
  obtain ⟨K3, hK3⟩ : ∃ K3 : Nat, K3 = K2 + ns := ⟨_, rfl⟩
  have CE : Hid (∀ w', OwnE w' lo b1 nm nm M → Calls Tryz.prog 27 #[.slice (some ⟨b1, 0, none⟩) nm nm, .int .i64 k] w' fun e w'' => e = .returned (.int .i64 (K1 : Int)) ∧ OwnE w'' lo b1 nm nm (markL k nm) ∧ w'.grownBy w'' (some b1)) := by
    rw [hK1]
    exact fun w' h => markE_any lo b1 nm nm k M w' h hk hn1
  have CL : Hid (∀ w', LevsO lo hi w' b2 nv V gs bs es → Calls Tryz.prog 46 #[.slice (some ⟨b2, 0, none⟩) nv nv, .int .i64 (K1 : Int)] w' fun e w'' => e = .returned (.int .i64 (K2 : Int)) ∧ LevsO lo hi w'' b2 nv (mrkV K1 V) gs bs es ∧ KeepO (bs 0) (bs nv) w' w'') := by
    rw [hK2]
    exact fun w' h => markLevs_o lo hi b2 nv K1 V gs bs es w' h h0 h2 (by omega) (by omega)
  have CI : Hid (∀ w', IntsO lo w' b3 ns S → Calls Tryz.prog 47 #[.slice (some ⟨b3, 0, none⟩) ns ns, .int .i64 (K2 : Int)] w' fun e w'' => e = .returned (.int .i64 (K3 : Int)) ∧ IntsO lo w'' b3 ns (mrkS K2 ns) ∧ w'.grownBy w'' (some b3)) := by
    rw [hK3]
    exact fun w' h => markInts_o lo b3 ns K2 S w' h (by omega)
  rw [← hK1, ← hK2, ← hK3]
  clear hT kW hhi hz hap hah hK1 hK2 hK3 hn hn1 h2
  go_enter Tryz.func15, Tryz.ntmps15
  go_wp2_with fail
  rw [← hW]
  try rw [← hY]
  clear hW hY
  refine (CE.out _ HT.out.mem).mono ?_
  rintro e w1 ⟨rfl, hO1, hg1⟩
  have hz := HZ.out
  have hap := HAP.out
  have hah := HAH.out
  have hyh := HYH.out
  have x2 := hg1.cell x2 (fun e => by have h4 : Y = b1 := Option.some.inj e; omega)
  have x3 := hg1.cell x3 (fun e => by have h4 : Y = b1 := Option.some.inj e; omega)
  have HO1 : Hid (OwnE w1 lo b1 nm nm (markL k nm)) := hO1
  have HL1 : Hid (LevsO lo hi w1 b2 nv V gs bs es) := HT.out.levs.grown hg1 (by omega) (by omega)
  have HS1 : Hid (IntsO lo w1 b3 ns S) := HT.out.sn.grown hg1 (fun e => by have h4 : b3 = b1 := Option.some.inj e; omega)
  have M1 : Hid (KeepO lo hi w w1) := K0.out.grown hg1 (by omega) (by omega)
  have z1 := World.block_lt_of_cell? _ _ x2
  simp only at z1
  clear hg1 hO1 hz hap hah hyh HT
  go_wp2_with fail
  refine (CL.out _ HL1.out).mono ?_
  rintro e w2 ⟨rfl, hL2, hk2⟩
  have hz := HZ.out
  have hah := HAH.out
  have hyh := HYH.out
  have x3 := keep_cell hk2 (.inr (by omega)) x3
  have HL2 : Hid (LevsO lo hi w2 b2 nv (mrkV K1 V) gs bs es) := hL2
  have HO2 : Hid (OwnE w2 lo b1 nm nm (markL k nm)) := hk2.own HO1.out (by omega)
  have HS2 : Hid (IntsO lo w2 b3 ns S) := HS1.out.keepO hk2 (by omega)
  have M2 : Hid (KeepO lo hi w w2) := M1.out.trans (hk2.mono (by omega) (by omega))
  have z1 := World.block_lt_of_cell? _ _ x3
  simp only at z1
  clear hL2 hk2 x2 HO1 HS1 HL1 hz hah hyh
  go_wp2_with fail
  refine (CI.out _ HS2.out).mono ?_
  rintro e w3 ⟨rfl, hS3, hg3⟩
  have hz := HZ.out
  have hap := HAP.out
  have hah := HAH.out
  have HT3 : Hid (TreeO lo hi w3 b1 nm b2 nv b3 ns (markL k nm) (mrkV K1 V) (mrkS K2 ns) gs bs es) := ⟨HO2.out.grown hg3 (fun e => by have h4 : b1 = b3 := Option.some.inj e; omega), HL2.out.grown hg3 (by omega) (by omega), hS3, hah⟩
  have M3 : Hid (KeepO lo hi w w3) := M2.out.grown hg3 (by omega) (by omega)
  clear hg3 hS3 hz hap hah x3 HO2 HL2 HS2
  go_wp2
  go_ret
  exact ⟨rfl, HT3.out, M3.out⟩
theorem heldTree_o (q : Int) (lo hi b1 nm b2 nv b3 ns k : Nat) (V : List (List RunD)) (gs bs : Nat → Nat) (es : Nat → Nat → Nat) (w : World) (hT : TreeO lo hi w b1 nm b2 nv b3 ns (markL k nm) (mrkV (k + 5 * nm) V) (mrkS (k + 5 * nm + mkV V) ns) gs bs es) (h1 : nm ≤ 1048576) (h0 : nv ≤ 1048576) (h2 : ∀ B ∈ V, B.length ≤ 1048576 ∧ ∀ p ∈ B, p.1.length ≤ 1048576) (h3 : ns ≤ 1048576) (hk : 1 ≤ k) (hn : k + 5 * nm + mkV V + ns ≤ 1000000000) :
    Calls Tryz.prog 16 #[.agg #[.int .i64 q, .slice (some ⟨b1, 0, none⟩) nm nm, .slice (some ⟨b2, 0, none⟩) nv nv, .slice (some ⟨b3, 0, none⟩) ns ns], .int .i64 k] w fun e w' => e = .returned (.int .i64 ((k + 5 * nm + mkV V + ns : Nat) : Int)) ∧ Below w.heap.size w w' := by
  obtain ⟨Y, hY⟩ : ∃ Y, Y = w.heap.size := ⟨_, rfl⟩
  obtain ⟨W, hW⟩ : ∃ W, W = w.alloc (.cells #[.int .i64 q, .slice (some ⟨b1, 0, none⟩) nm nm, .slice (some ⟨b2, 0, none⟩) nv nv, .slice (some ⟨b3, 0, none⟩) ns ns] 31) := ⟨_, rfl⟩
  have kW : Below w.heap.size w W := by rw [hW]; exact (Below.refl _ _).alloc (Nat.le_refl _) _
  have x2 : W.cell? ⟨Y, 2, none⟩ = some (.slice (some ⟨b2, 0, none⟩) nv nv) := by rw [hW, hY]; simp
  have x3 : W.cell? ⟨Y, 3, none⟩ = some (.slice (some ⟨b3, 0, none⟩) ns ns) := by rw [hW, hY]; simp
  have K0 : Hid (Below w.heap.size w W) := kW
  have hn1 : k + 5 * nm ≤ 1000000000 := by omega
  obtain ⟨K1, hK1⟩ : ∃ K1 : Nat, K1 = k + 5 * nm := ⟨_, rfl⟩
  obtain ⟨K2, hK2⟩ : ∃ K2 : Nat, K2 = K1 + mkV V := ⟨_, rfl⟩
  obtain ⟨K3, hK3⟩ : ∃ K3 : Nat, K3 = K2 + ns := ⟨_, rfl⟩
  have CE : Hid (∀ w', OwnE w' lo b1 nm nm (markL k nm) → Calls Tryz.prog 34 #[.slice (some ⟨b1, 0, none⟩) nm nm, .int .i64 k] w' fun e w'' => e = .returned (.int .i64 (K1 : Int)) ∧ Below w'.heap.size w' w'') := by
    rw [hK1]
    exact fun w' h => heldE_any b1 nm nm k w' h.entsAt hk hn1
  have CL : Hid (∀ w', LevsO lo hi w' b2 nv (mrkV K1 V) gs bs es → Calls Tryz.prog 48 #[.slice (some ⟨b2, 0, none⟩) nv nv, .int .i64 (K1 : Int)] w' fun e w'' => e = .returned (.int .i64 (K2 : Int)) ∧ Below w'.heap.size w' w'') := by
    rw [hK2]
    exact fun w' h => heldLevs_o lo hi b2 nv K1 V gs bs es w' h h0 h2 (by omega) (by omega)
  have CI : Hid (∀ w', IntsO lo w' b3 ns (mrkS K2 ns) → Calls Tryz.prog 49 #[.slice (some ⟨b3, 0, none⟩) ns ns, .int .i64 (K2 : Int)] w' fun e w'' => e = .returned (.int .i64 (K3 : Int)) ∧ Below w'.heap.size w' w'') := by
    rw [hK3]
    exact fun w' h => heldInts_o lo b3 ns K2 w' h (by omega)
  rw [← hK1, ← hK2] at hT
  rw [← hK1, ← hK2, ← hK3]
  have HT : Hid (TreeO lo hi w b1 nm b2 nv b3 ns (markL k nm) (mrkV K1 V) (mrkS K2 ns) gs bs es) := hT
  have hn3 : ¬ (K3 : Int) < 0 := by omega
  have hn2 : ¬ (K2 : Int) < 0 := by omega
  have hn4 : ¬ (K1 : Int) < 0 := by omega
  clear hT kW hK1 hK2 hK3 hn hn1 h2
  go_enter Tryz.func16, Tryz.ntmps16
  go_wp2_with fail
  rw [← hW]
  try rw [← hY]
  clear hW hY
  refine (CE.out _ (HT.out.below K0.out).mem).mono ?_
  rintro e w1 ⟨rfl, hb1⟩
  have x2 := cell_later hb1 x2
  have x3 := cell_later hb1 x3
  have K1' : Hid (Below w.heap.size w w1) := K0.out.trans (hb1.mono K0.out.size)
  have z1 := World.block_lt_of_cell? _ _ x2
  simp only at z1
  clear hb1
  go_wp2_with fail
  refine (CL.out _ (HT.out.below K1'.out).levs).mono ?_
  rintro e w2 ⟨rfl, hb2⟩
  have x3 := cell_later hb2 x3
  have K2' : Hid (Below w.heap.size w w2) := K1'.out.trans (hb2.mono K1'.out.size)
  have z1 := World.block_lt_of_cell? _ _ x3
  simp only at z1
  clear hb2 x2
  go_wp2_with fail
  refine (CI.out _ (HT.out.below K2'.out).sn).mono ?_
  rintro e w3 ⟨rfl, hb3⟩
  have K3' : Hid (Below w.heap.size w w3) := K2'.out.trans (hb3.mono K2'.out.size)
  clear hb3 x3
  go_wp2
  go_ret
  exact ⟨rfl, K3'.out⟩
end Go.Proofs.YtlmgojlffgkciaaGreat

namespace Go.Proofs.YtlmgojlffgkciaaGreat
open Go.RowKit
set_option maxHeartbeats 400000 in
theorem toRun_any (m : Int) (a : Option Addr) (len cap : Nat) (L : List EntD) (w : World) (hL : EntsAt w a len cap L) (hbig : len ≤ 1048576) :
    Calls Tryz.prog 120 #[.agg #[.slice a len cap, .int .i64 m]] w fun e w' => ∃ b, e = .returned (.agg #[.slice (some ⟨b, 0, none⟩) len len, .int .i64 m]) ∧ w.heap.size ≤ b ∧ b < w'.heap.size ∧ EntsAt w' (some ⟨b, 0, none⟩) len len L ∧ Below w.heap.size w w' := by
  go_enter Tryz.func120, Tryz.ntmps120
  go_wp2_with fail
  refine (toEntS_any _ _ _ L _ (hL.keep ?_) hbig).mono ?_
  · exact (((Below.refl _ _).alloc (Nat.le_refl _) _).alloc (by simp) _).alloc (by simp; omega) _
  rintro e w1 ⟨rfl, hL1, hlt1, hb1⟩
  simp only [World.size_alloc] at hlt1
  obtain ⟨hc1, hf1⟩ := bcell hb1
  have hz := hb1.size
  simp at hz
  have HL1 : Hid (EntsAt w1 (some ⟨w.heap.size + 1 + 1 + 1, 0, none⟩) len len L) := by simpa [Hid] using hL1
  have HZ : Hid (w.heap.size + 1 + 1 + 1 < w1.heap.size) := hlt1
  clear hL1 hlt1
  go_wp2
  refine bodyPost_ret (v := .agg #[.slice (some ⟨w.heap.size + 1 + 1 + 1, 0, none⟩) len len, .int .i64 m]) (by simp [results, Tryz.results120, go_sem, hc1]) rfl ⟨w.heap.size + 1 + 1 + 1, rfl, by omega, by simpa [World.setCell] using HZ.out, ?_, ?_⟩
  · refine ((((HL1.out.setCell _ _ ?_).setCell _ _ ?_).setCell _ _ ?_).setCell _ _ ?_) <;> (rintro x e _; cases e; simp; try omega)
  · have hB : Below w.heap.size w w1 := ((((Below.refl _ _).alloc (Nat.le_refl _) _).alloc (by simp) _).alloc (by simp; omega) _).trans (hb1.mono (by simp; omega))
    exact ((((hB.setCell (p := ⟨w.heap.size + 1 + 1, 0, none⟩) (by simp; omega) _).setCell (p := ⟨w.heap.size + 1 + 1, 1, none⟩) (by simp; omega) _).setCell (p := ⟨w.heap.size + 1, 0, none⟩) (by simp) _).setCell (p := ⟨w.heap.size + 1, 1, none⟩) (by simp) _)
end Go.Proofs.YtlmgojlffgkciaaGreat
