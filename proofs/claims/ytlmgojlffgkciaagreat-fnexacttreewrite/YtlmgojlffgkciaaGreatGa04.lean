/-
  A tree in memory of a call's own, every list in a block of its own; the laws' marks on it, and the marks found again; by walks of their Go text.
  The laws' own helpers over a run (its size, its copy, that two are the same), by walks of their Go text.
  The laws' own helpers over lists of runs, levels, numbers, and trees (size, copy, that two are the same), by walks of their Go text.
  The laws' own helpers: that two lists of runs, of levels, of numbers, two trees are the same, by walks of their Go text.
-/
import Derived.Test.YtlmgojlffgkciaaGreatGa03
import Derived.Test.YtlmgojlffgkciaaGreatGa00
import Derived.Test.YtlmgojlffgkciaaGreatGa01
import Derived.Deep.QuietTactic
import Derived.BigQuiet
namespace Go.Proofs.YtlmgojlffgkciaaGreat
open Go.RowKit
set_option maxRecDepth 100000
set_option maxHeartbeats 2000000
structure TreeO (lo hi : Nat) (w : World) (b1 nm b2 nv b3 ns : Nat) (M : List EntD) (V : List (List RunD)) (S : List Int) (gs bs : Nat → Nat) (es : Nat → Nat → Nat) : Prop where
  mem : OwnE w lo b1 nm nm M
  levs : LevsO lo hi w b2 nv V gs bs es
  sn : IntsO lo w b3 ns S
  ahead : b1 < bs 0 ∧ b3 < bs 0
theorem IntsO.grown {lo g n : Nat} {w w' : World} {S : List Int} {row : Option Nat} (h : IntsO lo w g n S) (hg : w.grownBy w' row) (hne : some g ≠ row) : IntsO lo w' g n S := ⟨h.1, h.2.kept hg (.inr (by simpa [Value.ownBlock] using hne))⟩
theorem IntsO.keepO {lo lo' hi' g n : Nat} {w w' : World} {S : List Int} (h : IntsO lo w g n S) (k : KeepO lo' hi' w w') (hg : g < lo' ∨ hi' ≤ g) : IntsO lo w' g n S := ⟨h.1, k.row h.2 hg⟩
theorem TreeO.below {lo hi b1 nm b2 nv b3 ns : Nat} {w w' : World} {M : List EntD} {V : List (List RunD)} {S : List Int} {gs bs : Nat → Nat} {es : Nat → Nat → Nat} (h : TreeO lo hi w b1 nm b2 nv b3 ns M V S gs bs es) (hb : Below w.heap.size w w') : TreeO lo hi w' b1 nm b2 nv b3 ns M V S gs bs es :=
  ⟨h.mem.below hb, h.levs.below hb, h.sn.grown (row := none) ⟨hb.os, hb.tape, hb.output, hb.size, fun k hk _ => hb.block k hk⟩ (by simp), h.ahead⟩
theorem TreeO.keepO {lo hi lo' hi' b1 nm b2 nv b3 ns : Nat} {w w' : World} {M : List EntD} {V : List (List RunD)} {S : List Int} {gs bs : Nat → Nat} {es : Nat → Nat → Nat} (h : TreeO lo hi w b1 nm b2 nv b3 ns M V S gs bs es) (k : KeepO lo' hi' w w') (hd : hi' ≤ lo) : TreeO lo hi w' b1 nm b2 nv b3 ns M V S gs bs es := by
  obtain ⟨xs, h1, _⟩ := h.levs.row
  have g2 := (h1.lt b2 rfl).1
  have g1 := h.mem.lt.1
  have g3 := (h.sn.2.lt b3 rfl).1
  have g0 := h.levs.bot.1
  exact ⟨k.own h.mem (by omega), h.levs.keepO k (by omega) (by omega), h.sn.keepO k (by omega), h.ahead⟩
theorem TreeO.apart {lo hi b1 nm b2 nv b3 ns : Nat} {w : World} {M : List EntD} {V : List (List RunD)} {S : List Int} {gs bs : Nat → Nat} {es : Nat → Nat → Nat} (h : TreeO lo hi w b1 nm b2 nv b3 ns M V S gs bs es) : b1 ≠ b2 ∧ b1 ≠ b3 ∧ b2 ≠ b3 := by
  obtain ⟨xs, h1, _⟩ := h.levs.row
  have k1 := blockOf_row h.mem.owns
  have k2 := blockOf_row h1
  have k3 := blockOf_row h.sn.2
  refine ⟨fun e => ?_, fun e => ?_, fun e => ?_⟩ <;> subst e
  · exact absurd (k1.kind k2) (by decide)
  · exact absurd (k1.kind k3) (by decide)
  · exact absurd (k2.kind k3) (by decide)
theorem TreeO.tops {lo hi b1 nm b2 nv b3 ns : Nat} {w : World} {M : List EntD} {V : List (List RunD)} {S : List Int} {gs bs : Nat → Nat} {es : Nat → Nat → Nat} (h : TreeO lo hi w b1 nm b2 nv b3 ns M V S gs bs es) : (lo ≤ b1 ∧ b1 < hi) ∧ (lo ≤ b2 ∧ b2 < hi) ∧ (lo ≤ b3 ∧ b3 < hi) ∧ lo ≤ bs 0 ∧ bs nv ≤ hi ∧ bs 0 ≤ bs nv := by
  obtain ⟨xs, h1, _⟩ := h.levs.row
  have g1 := h.mem.lt.1
  have g2 := (h1.lt b2 rfl).1
  have g3 := (h.sn.2.lt b3 rfl).1
  have u := h.levs.up 0 nv (by omega) (by omega)
  have t := h.levs.top
  have bt := h.levs.bot
  have a := h.ahead
  omega
theorem LevsO.grown {lo hi g G n : Nat} {w w' : World} {V : List (List RunD)} {gs bs : Nat → Nat} {es : Nat → Nat → Nat} (h : LevsO lo hi w G n V gs bs es) (hg : w.grownBy w' (some g)) (hne : G ≠ g) (hl : g < bs 0) : LevsO lo hi w' G n V gs bs es := by
  refine h.keepO (lo' := g) (hi' := g + 1) ⟨hg.os, hg.tape, hg.output, hg.size, fun q hq ho => hg.block q hq (fun e => by have := Option.some.inj e; omega)⟩ (by omega) (by omega)
theorem keep_cell {lo hi : Nat} {w w' : World} (h : KeepO lo hi w w') {b o : Nat} {v : Value} (hb : b < lo ∨ hi ≤ b) (hc : w.cell? ⟨b, o, none⟩ = some v) : w'.cell? ⟨b, o, none⟩ = some v :=
  (World.cell?_of_block (h.block b (World.block_lt_of_cell? _ _ hc) hb)).trans hc
theorem markTree_o (q : Int) (lo hi b1 nm b2 nv b3 ns k : Nat) (M : List EntD) (V : List (List RunD)) (S : List Int) (gs bs : Nat → Nat) (es : Nat → Nat → Nat) (w : World) (hT : TreeO lo hi w b1 nm b2 nv b3 ns M V S gs bs es) (hhi : hi ≤ w.heap.size) (h1 : nm ≤ 1048576) (h0 : nv ≤ 1048576) (h2 : ∀ B ∈ V, B.length ≤ 1048576 ∧ ∀ p ∈ B, p.1.length ≤ 1048576) (h3 : ns ≤ 1048576) (hk : 1 ≤ k) (hn : k + 5 * nm + mkV V + ns ≤ 1000000000) :
    Calls Tryz.prog 15 #[.agg #[.int .i64 q, .slice (some ⟨b1, 0, none⟩) nm nm, .slice (some ⟨b2, 0, none⟩) nv nv, .slice (some ⟨b3, 0, none⟩) ns ns], .int .i64 k] w fun e w' => e = .returned (.int .i64 ((k + 5 * nm + mkV V + ns : Nat) : Int)) ∧ TreeO lo hi w' b1 nm b2 nv b3 ns (markL k nm) (mrkV (k + 5 * nm) V) (mrkS (k + 5 * nm + mkV V) ns) gs bs es ∧ KeepO lo hi w w' := by
  have hz := hT.tops
  have hap := hT.apart
  have hah := hT.ahead
  obtain ⟨Y, hY⟩ : ∃ Y, Y = w.heap.size := ⟨_, rfl⟩
  obtain ⟨W, hW⟩ : ∃ W, W = w.alloc (.cells #[.int .i64 q, .slice (some ⟨b1, 0, none⟩) nm nm, .slice (some ⟨b2, 0, none⟩) nv nv, .slice (some ⟨b3, 0, none⟩) ns ns] 31) := ⟨_, rfl⟩
  have kW : Below w.heap.size w W := by rw [hW]; exact (Below.refl _ _).alloc (Nat.le_refl _) _
  have x2 : W.cell? ⟨Y, 2, none⟩ = some (.slice (some ⟨b2, 0, none⟩) nv nv) := by rw [hW, hY]; simp
  have x3 : W.cell? ⟨Y, 3, none⟩ = some (.slice (some ⟨b3, 0, none⟩) ns ns) := by rw [hW, hY]; simp
  have HT : Hid (TreeO lo hi W b1 nm b2 nv b3 ns M V S gs bs es) := hT.below kW
  have K0 : Hid (KeepO lo hi w W) := KeepO.of_below kW
  have HYH : Hid (hi ≤ Y) := by rw [hY]; exact hhi
  have HZ : Hid ((lo ≤ b1 ∧ b1 < hi) ∧ (lo ≤ b2 ∧ b2 < hi) ∧ (lo ≤ b3 ∧ b3 < hi) ∧ lo ≤ bs 0 ∧ bs nv ≤ hi ∧ bs 0 ≤ bs nv) := hz
  have HAP : Hid (b1 ≠ b2 ∧ b1 ≠ b3 ∧ b2 ≠ b3) := hap
  have HAH : Hid (b1 < bs 0 ∧ b3 < bs 0) := hah
  have hn1 : k + 5 * nm ≤ 1000000000 := by omega
  obtain ⟨K1, hK1⟩ : ∃ K1 : Nat, K1 = k + 5 * nm := ⟨_, rfl⟩
  obtain ⟨K2, hK2⟩ : ∃ K2 : Nat, K2 = K1 + mkV V := ⟨_, rfl⟩
  obtain ⟨K3, hK3⟩ : ∃ K3 : Nat, K3 = K2 + ns := ⟨_, rfl⟩
  have CE : Hid (∀ w', OwnE w' lo b1 nm nm M → Calls Tryz.prog 27 #[.slice (some ⟨b1, 0, none⟩) nm nm, .int .i64 k] w' fun e w'' => e = .returned (.int .i64 (K1 : Int)) ∧ OwnE w'' lo b1 nm nm (markL k nm) ∧ w'.grownBy w'' (some b1)) := by
    rw [hK1]
    exact fun w' h => markE_any lo b1 nm nm k M w' h hk hn1
  have CL : Hid (∀ w', LevsO lo hi w' b2 nv V gs bs es → Calls Tryz.prog 46 #[.slice (some ⟨b2, 0, none⟩) nv nv, .int .i64 (K1 : Int)] w' fun e w'' => e = .returned (.int .i64 (K2 : Int)) ∧ LevsO lo hi w'' b2 nv (mrkV K1 V) gs bs es ∧ KeepO (bs 0) (bs nv) w' w'') := by
    rw [hK2]
    exact fun w' h => markLevs_o lo hi b2 nv K1 V gs bs es w' h h0 h2 (by omega) (by omega)
  have CI : Hid (∀ w', IntsO lo w' b3 ns S → Calls Tryz.prog 47 #[.slice (some ⟨b3, 0, none⟩) ns ns, .int .i64 (K2 : Int)] w' fun e w'' => e = .returned (.int .i64 (K3 : Int)) ∧ IntsO lo w'' b3 ns (mrkS K2 ns) ∧ w'.grownBy w'' (some b3)) := by
    rw [hK3]
    exact fun w' h => markInts_o lo b3 ns K2 S w' h (by omega)
  rw [← hK1, ← hK2, ← hK3]
  clear hT kW hhi hz hap hah hK1 hK2 hK3 hn hn1 h2
  go_enter Tryz.func15, Tryz.ntmps15
  go_wp2_with fail
  rw [← hW]
  try rw [← hY]
  clear hW hY
  refine (CE.out _ HT.out.mem).mono ?_
  rintro e w1 ⟨rfl, hO1, hg1⟩
  have hz := HZ.out
  have hap := HAP.out
  have hah := HAH.out
  have hyh := HYH.out
  have x2 := hg1.cell x2 (fun e => by have h4 : Y = b1 := Option.some.inj e; omega)
  have x3 := hg1.cell x3 (fun e => by have h4 : Y = b1 := Option.some.inj e; omega)
  have HO1 : Hid (OwnE w1 lo b1 nm nm (markL k nm)) := hO1
  have HL1 : Hid (LevsO lo hi w1 b2 nv V gs bs es) := HT.out.levs.grown hg1 (by omega) (by omega)
  have HS1 : Hid (IntsO lo w1 b3 ns S) := HT.out.sn.grown hg1 (fun e => by have h4 : b3 = b1 := Option.some.inj e; omega)
  have M1 : Hid (KeepO lo hi w w1) := K0.out.grown hg1 (by omega) (by omega)
  have z1 := World.block_lt_of_cell? _ _ x2
  simp only at z1
  clear hg1 hO1 hz hap hah hyh HT
  go_wp2_with fail
  refine (CL.out _ HL1.out).mono ?_
  rintro e w2 ⟨rfl, hL2, hk2⟩
  have hz := HZ.out
  have hah := HAH.out
  have hyh := HYH.out
  have x3 := keep_cell hk2 (.inr (by omega)) x3
  have HL2 : Hid (LevsO lo hi w2 b2 nv (mrkV K1 V) gs bs es) := hL2
  have HO2 : Hid (OwnE w2 lo b1 nm nm (markL k nm)) := hk2.own HO1.out (by omega)
  have HS2 : Hid (IntsO lo w2 b3 ns S) := HS1.out.keepO hk2 (by omega)
  have M2 : Hid (KeepO lo hi w w2) := M1.out.trans (hk2.mono (by omega) (by omega))
  have z1 := World.block_lt_of_cell? _ _ x3
  simp only at z1
  clear hL2 hk2 x2 HO1 HS1 HL1 hz hah hyh
  go_wp2_with fail
  refine (CI.out _ HS2.out).mono ?_
  rintro e w3 ⟨rfl, hS3, hg3⟩
  have hz := HZ.out
  have hap := HAP.out
  have hah := HAH.out
  have HT3 : Hid (TreeO lo hi w3 b1 nm b2 nv b3 ns (markL k nm) (mrkV K1 V) (mrkS K2 ns) gs bs es) := ⟨HO2.out.grown hg3 (fun e => by have h4 : b1 = b3 := Option.some.inj e; omega), HL2.out.grown hg3 (by omega) (by omega), hS3, hah⟩
  have M3 : Hid (KeepO lo hi w w3) := M2.out.grown hg3 (by omega) (by omega)
  clear hg3 hS3 hz hap hah x3 HO2 HL2 HS2
  go_wp2
  go_ret
  exact ⟨rfl, HT3.out, M3.out⟩
theorem heldTree_o (q : Int) (lo hi b1 nm b2 nv b3 ns k : Nat) (V : List (List RunD)) (gs bs : Nat → Nat) (es : Nat → Nat → Nat) (w : World) (hT : TreeO lo hi w b1 nm b2 nv b3 ns (markL k nm) (mrkV (k + 5 * nm) V) (mrkS (k + 5 * nm + mkV V) ns) gs bs es) (h1 : nm ≤ 1048576) (h0 : nv ≤ 1048576) (h2 : ∀ B ∈ V, B.length ≤ 1048576 ∧ ∀ p ∈ B, p.1.length ≤ 1048576) (h3 : ns ≤ 1048576) (hk : 1 ≤ k) (hn : k + 5 * nm + mkV V + ns ≤ 1000000000) :
    Calls Tryz.prog 16 #[.agg #[.int .i64 q, .slice (some ⟨b1, 0, none⟩) nm nm, .slice (some ⟨b2, 0, none⟩) nv nv, .slice (some ⟨b3, 0, none⟩) ns ns], .int .i64 k] w fun e w' => e = .returned (.int .i64 ((k + 5 * nm + mkV V + ns : Nat) : Int)) ∧ Below w.heap.size w w' := by
  obtain ⟨Y, hY⟩ : ∃ Y, Y = w.heap.size := ⟨_, rfl⟩
  obtain ⟨W, hW⟩ : ∃ W, W = w.alloc (.cells #[.int .i64 q, .slice (some ⟨b1, 0, none⟩) nm nm, .slice (some ⟨b2, 0, none⟩) nv nv, .slice (some ⟨b3, 0, none⟩) ns ns] 31) := ⟨_, rfl⟩
  have kW : Below w.heap.size w W := by rw [hW]; exact (Below.refl _ _).alloc (Nat.le_refl _) _
  have x2 : W.cell? ⟨Y, 2, none⟩ = some (.slice (some ⟨b2, 0, none⟩) nv nv) := by rw [hW, hY]; simp
  have x3 : W.cell? ⟨Y, 3, none⟩ = some (.slice (some ⟨b3, 0, none⟩) ns ns) := by rw [hW, hY]; simp
  have K0 : Hid (Below w.heap.size w W) := kW
  have hn1 : k + 5 * nm ≤ 1000000000 := by omega
  obtain ⟨K1, hK1⟩ : ∃ K1 : Nat, K1 = k + 5 * nm := ⟨_, rfl⟩
  obtain ⟨K2, hK2⟩ : ∃ K2 : Nat, K2 = K1 + mkV V := ⟨_, rfl⟩
  obtain ⟨K3, hK3⟩ : ∃ K3 : Nat, K3 = K2 + ns := ⟨_, rfl⟩
  have CE : Hid (∀ w', OwnE w' lo b1 nm nm (markL k nm) → Calls Tryz.prog 34 #[.slice (some ⟨b1, 0, none⟩) nm nm, .int .i64 k] w' fun e w'' => e = .returned (.int .i64 (K1 : Int)) ∧ Below w'.heap.size w' w'') := by
    rw [hK1]
    exact fun w' h => heldE_any b1 nm nm k w' h.entsAt hk hn1
  have CL : Hid (∀ w', LevsO lo hi w' b2 nv (mrkV K1 V) gs bs es → Calls Tryz.prog 48 #[.slice (some ⟨b2, 0, none⟩) nv nv, .int .i64 (K1 : Int)] w' fun e w'' => e = .returned (.int .i64 (K2 : Int)) ∧ Below w'.heap.size w' w'') := by
    rw [hK2]
    exact fun w' h => heldLevs_o lo hi b2 nv K1 V gs bs es w' h h0 h2 (by omega) (by omega)
  have CI : Hid (∀ w', IntsO lo w' b3 ns (mrkS K2 ns) → Calls Tryz.prog 49 #[.slice (some ⟨b3, 0, none⟩) ns ns, .int .i64 (K2 : Int)] w' fun e w'' => e = .returned (.int .i64 (K3 : Int)) ∧ Below w'.heap.size w' w'') := by
    rw [hK3]
    exact fun w' h => heldInts_o lo b3 ns K2 w' h (by omega)
  rw [← hK1, ← hK2] at hT
  rw [← hK1, ← hK2, ← hK3]
  have HT : Hid (TreeO lo hi w b1 nm b2 nv b3 ns (markL k nm) (mrkV K1 V) (mrkS K2 ns) gs bs es) := hT
  have hn3 : ¬ (K3 : Int) < 0 := by omega
  have hn2 : ¬ (K2 : Int) < 0 := by omega
  have hn4 : ¬ (K1 : Int) < 0 := by omega
  clear hT kW hK1 hK2 hK3 hn hn1 h2
  go_enter Tryz.func16, Tryz.ntmps16
  go_wp2_with fail
  rw [← hW]
  try rw [← hY]
  clear hW hY
  refine (CE.out _ (HT.out.below K0.out).mem).mono ?_
  rintro e w1 ⟨rfl, hb1⟩
  have x2 := cell_later hb1 x2
  have x3 := cell_later hb1 x3
  have K1' : Hid (Below w.heap.size w w1) := K0.out.trans (hb1.mono K0.out.size)
  have z1 := World.block_lt_of_cell? _ _ x2
  simp only at z1
  clear hb1
  go_wp2_with fail
  refine (CL.out _ (HT.out.below K1'.out).levs).mono ?_
  rintro e w2 ⟨rfl, hb2⟩
  have x3 := cell_later hb2 x3
  have K2' : Hid (Below w.heap.size w w2) := K1'.out.trans (hb2.mono K1'.out.size)
  have z1 := World.block_lt_of_cell? _ _ x3
  simp only at z1
  clear hb2 x2
  go_wp2_with fail
  refine (CI.out _ (HT.out.below K2'.out).sn).mono ?_
  rintro e w3 ⟨rfl, hb3⟩
  have K3' : Hid (Below w.heap.size w w3) := K2'.out.trans (hb3.mono K2'.out.size)
  clear hb3 x3
  go_wp2
  go_ret
  exact ⟨rfl, K3'.out⟩
end Go.Proofs.YtlmgojlffgkciaaGreat

namespace Go.Proofs.YtlmgojlffgkciaaGreat
open Go.RowKit
set_option maxHeartbeats 400000 in
theorem toRun_any (m : Int) (a : Option Addr) (len cap : Nat) (L : List EntD) (w : World) (hL : EntsAt w a len cap L) (hbig : len ≤ 1048576) :
    Calls Tryz.prog 120 #[.agg #[.slice a len cap, .int .i64 m]] w fun e w' => ∃ b, e = .returned (.agg #[.slice (some ⟨b, 0, none⟩) len len, .int .i64 m]) ∧ w.heap.size ≤ b ∧ b < w'.heap.size ∧ EntsAt w' (some ⟨b, 0, none⟩) len len L ∧ Below w.heap.size w w' := by
  go_enter Tryz.func120, Tryz.ntmps120
  go_wp2_with fail
  refine (toEntS_any _ _ _ L _ (hL.keep ?_) hbig).mono ?_
  · exact (((Below.refl _ _).alloc (Nat.le_refl _) _).alloc (by simp) _).alloc (by simp; omega) _
  rintro e w1 ⟨rfl, hL1, hlt1, hb1⟩
  simp only [World.size_alloc] at hlt1
  obtain ⟨hc1, hf1⟩ := bcell hb1
  have hz := hb1.size
  simp at hz
  have HL1 : Hid (EntsAt w1 (some ⟨w.heap.size + 1 + 1 + 1, 0, none⟩) len len L) := by simpa [Hid] using hL1
  have HZ : Hid (w.heap.size + 1 + 1 + 1 < w1.heap.size) := hlt1
  clear hL1 hlt1
  go_wp2
  refine bodyPost_ret (v := .agg #[.slice (some ⟨w.heap.size + 1 + 1 + 1, 0, none⟩) len len, .int .i64 m]) (by simp [results, Tryz.results120, go_sem, hc1]) rfl ⟨w.heap.size + 1 + 1 + 1, rfl, by omega, by simpa [World.setCell] using HZ.out, ?_, ?_⟩
  · refine ((((HL1.out.setCell _ _ ?_).setCell _ _ ?_).setCell _ _ ?_).setCell _ _ ?_) <;> (rintro x e _; cases e; simp; try omega)
  · have hB : Below w.heap.size w w1 := ((((Below.refl _ _).alloc (Nat.le_refl _) _).alloc (by simp) _).alloc (by simp; omega) _).trans (hb1.mono (by simp; omega))
    exact ((((hB.setCell (p := ⟨w.heap.size + 1 + 1, 0, none⟩) (by simp; omega) _).setCell (p := ⟨w.heap.size + 1 + 1, 1, none⟩) (by simp; omega) _).setCell (p := ⟨w.heap.size + 1, 0, none⟩) (by simp) _).setCell (p := ⟨w.heap.size + 1, 1, none⟩) (by simp) _)
end Go.Proofs.YtlmgojlffgkciaaGreat

namespace Go.Proofs.YtlmgojlffgkciaaGreat
open Go.RowKit
theorem Tryz.infoRun : (Tryz.prog.info? 102).map (fun i => (i.zero, i.size, i.bytes)) = some (some (.agg #[.slice none 0 0, .int .i64 0]), 2, 32) := by kernel_rfl
theorem Tryz.infoRunL : (Tryz.prog.info? 64).map (fun i => (i.zero, i.size, i.bytes)) = some (some (.slice none 0 0), 1, 24) := by kernel_rfl
def SmallR (B : List RunD) : Prop := B.length ≤ 1048576 ∧ ∀ p ∈ B, p.1.length ≤ 1048576
def SmallV (V : List (List RunD)) : Prop := V.length ≤ 1048576 ∧ ∀ B ∈ V, SmallR B
def RunHas (G : Nat) (w : World) (xs : List Value) (j : Nat) (p : RunD) : Prop :=
  ∃ s n c, xs[j * 2]? = some (.slice s n c) ∧ xs[j * 2 + 1]? = some (.int .i64 p.2) ∧ EntsIn (G + 1) w s n c p.1
theorem RunHas.other {G : Nat} {w w' : World} {xs : List Value} {j k : Nat} {p : RunD} (h : RunHas G w xs j p) (hne : j ≠ k) (u0 u1 : Value) (hs : Same (G + 1) w w') : RunHas G w' ((xs.set (k * 2) u0).set (k * 2 + 1) u1) j p := by
  obtain ⟨s, n, c, h0, h1, h2⟩ := h
  refine ⟨s, n, c, ?_, ?_, h2.same hs⟩ <;> (repeat rw [List.getElem?_set_ne (by omega)]) <;> assumption
theorem runHas_same {G : Nat} {w : World} {xs : List Value} {k : Nat} {m : Int} {s : Option Addr} {n c : Nat} {L : List EntD} (h : k * 2 + 1 < xs.length) (hL : EntsIn (G + 1) w s n c L) : RunHas G w ((xs.set (k * 2) (.slice s n c)).set (k * 2 + 1) (.int .i64 m)) k (L, m) := by
  refine ⟨s, n, c, ?_, ?_, hL⟩
  · rw [List.getElem?_set_ne (by omega), List.getElem?_set_self (by omega)]
  · rw [List.getElem?_set_self (by simp; omega)]
theorem row_rooms {w : World} {base g n cap K : Nat} {T : TypeId} {xs : List Value} (h : w.ownsRow base T K (.slice (some ⟨g, 0, none⟩) n cap) n xs) : n ≤ cap ∧ cap ≤ maxLen := by
  rcases h.2 with ⟨h', _⟩ | ⟨g', cap', cur, h', _, _, hnc, hcm, _, _⟩
  · simp at h'
  · simp only [Value.slice.injEq, Option.some.injEq, Addr.mk.injEq, and_true, true_and] at h'
    obtain ⟨rfl, rfl⟩ := h'
    exact ⟨hnc, hcm⟩
theorem runsIn_of_row {w : World} {base g n cap : Nat} {xs : List Value} {B : List RunD} (h : w.ownsRow base 102 2 (.slice (some ⟨g, 0, none⟩) n cap) n xs) (hn : B.length = n) (hw : ∀ p ∈ B, (Lit.int .i64 p.2).wf = true)
    (hh : ∀ j p, B[j]? = some p → RunHas g w xs j p) : RunsIn g w (some ⟨g, 0, none⟩) n cap B := by
  have hlt := (h.lt g rfl).2
  have hrc := row_rooms h
  refine ⟨hn, hrc.1, hrc.2, (fun e => by cases e), ?_, ?_⟩
  · rintro x e _
    cases e
    exact ⟨hlt, rfl, Nat.le_refl _⟩
  · rintro x e i hi
    cases e
    obtain ⟨s, m, c, r0, r1, r2⟩ := hh i B[i] (List.getElem?_eq_getElem hi)
    refine ⟨hw _ (List.getElem_mem hi), s, m, c, ?_, ?_, r2.mono (by omega)⟩
    · simp only [Nat.zero_add]
      exact (h.cellAt _ (by omega)).trans r0
    · simp only [Nat.zero_add]
      exact (h.cellAt _ (by omega)).trans r1
set_option maxHeartbeats 1600000 in
theorem toRunS_any (lo : Nat) (a : Option Addr) (len cap : Nat) (B : List RunD) (w : World) (hP : RunsIn lo w a len cap B) (hS : SmallR B) :
    Calls Tryz.prog 78 #[.slice a len cap] w fun e w' => e = .returned (.slice (some ⟨w.heap.size, 0, none⟩) len len) ∧ RunsIn w.heap.size w' (some ⟨w.heap.size, 0, none⟩) len len B ∧ w.heap.size < w'.heap.size ∧ Below w.heap.size w w' := by
  have HLEN : Hid (B.length = len) := hP.length
  have HWF : Hid (∀ p ∈ B, (Lit.int .i64 p.2).wf = true) := hP.wfs
  have hbig : len ≤ 1048576 := by have := hP.length; have := hS.1; omega
  have HSM : Hid (SmallR B) := hS
  have HL : Hid (RunsIn lo w a len cap B) := hP
  clear hP hS
  obtain ⟨i0, hi, hz0, hz1, hz2⟩ := info_parts Tryz.infoRun
  go_enter Tryz.func78, Tryz.ntmps78
  go_wp2_with (at_make; refine wpList_make_full _ rfl _ _ 64 rfl w.heap.size 102 i0 _ 2 Tryz.underlying64 hi hz0 hz1 .i64 .i64 _ _ len rfl rfl (by simp) (by simp) (by rw [hz2]; omega) (by unfold maxLen; omega) (Nat.le_refl _) ?_; intro w1 hown hgrow)
  have hb1 : Below w.heap.size w w1 := (Below.refl _ _).grown hgrow (Nat.le_refl _) (by simp)
  have hsz1 : w.heap.size < w1.heap.size := (hown.lt _ rfl).2
  go_loopw [4] (fun i wr => ∃ (k : Nat) (xs : List Value), k ≤ len ∧ i = .int .i64 k ∧ wr.ownsRow w.heap.size 102 2 (.slice (some ⟨w.heap.size, 0, none⟩) len len) len xs ∧ Below w.heap.size w wr ∧ (∀ j p, j < k → B[j]? = some p → RunHas w.heap.size wr xs j p)) (fun i _ => len - (intOf i).toNat)
  case atStart => exact ⟨0, _, Nat.zero_le _, rfl, hown, hb1, fun j l h => absurd h (Nat.not_lt_zero _)⟩
  case round =>
    obtain ⟨k, xs, hk, rfl, ho, hb, hrow⟩ := hrel
    have HROW : Hid (∀ j p, j < k → B[j]? = some p → RunHas w.heap.size wr xs j p) := hrow
    clear hrow hown hgrow
    have hzr : w.heap.size < wr.heap.size := (ho.lt _ rfl).2
    by_cases hlt : k < len
    · obtain ⟨b, off, rfl, hbb⟩ := HL.out.form (by omega)
      obtain ⟨L, m, s, n, c, hg, _, g0, g1, hLk⟩ := HL.out.run hb k hlt
      have hn : n ≤ 1048576 := by
        have := HSM.out.2 _ (List.mem_of_getElem? hg)
        have := hLk.1.length
        simp only at *
        omega
      have HG : Hid (B[k]? = some (L, m)) := hg
      have hbk : b < wr.heap.size := Nat.lt_of_lt_of_le hbb hb.size
      clear hg
      have hxl := ho.1
      have HX : Hid (xs.length = len * 2) := hxl
      clear hxl
      have HO : Hid (wr.ownsRow w.heap.size 102 2 (.slice (some ⟨w.heap.size, 0, none⟩) len len) len xs) := ho
      clear ho
      go_wp2_with fail
      refine (toRun_any _ _ _ _ L _ hLk.1 hn).mono ?_
      rintro e w2 ⟨nb, rfl, hnb1, hnb2, hL2, hb2⟩
      have HL2 : Hid (EntsIn (w.heap.size + 1) w2 (some ⟨nb, 0, none⟩) n n L) := ⟨hL2, fun x e _ => by cases e; simp only; omega⟩
      clear hL2 hLk
      have ho2 : w2.ownsRow w.heap.size 102 2 (.slice (some ⟨w.heap.size, 0, none⟩) len len) len xs := HO.out.kept (row := none) ⟨hb2.os, hb2.tape, hb2.output, hb2.size, fun k hk _ => hb2.block k hk⟩ (.inr (by simp [Value.ownBlock]))
      have c0 : ∃ v, w2.cell? ⟨w.heap.size, k * 2, none⟩ = some v := ⟨_, (ho2.cellAt _ (by omega)).trans (List.getElem?_eq_getElem (by rw [HX.out]; omega))⟩
      have c1 : ∃ v, w2.cell? ⟨w.heap.size, k * 2 + 1, none⟩ = some v := ⟨_, (ho2.cellAt _ (by omega)).trans (List.getElem?_eq_getElem (by rw [HX.out]; omega))⟩
      obtain ⟨v0, c0⟩ := c0
      obtain ⟨v1, c1⟩ := c1
      have f0 : w2.frozen? ⟨w.heap.size, k * 2, none⟩ = false := ho2.frozenAt _
      have f1 : w2.frozen? ⟨w.heap.size, k * 2 + 1, none⟩ = false := ho2.frozenAt _
      have HO2 : Hid (w2.ownsRow w.heap.size 102 2 (.slice (some ⟨w.heap.size, 0, none⟩) len len) len xs) := ho2
      clear ho2
      go_wp2
      go_roundw
      case rel =>
        have t0 := HO2.out.stored (k * 2) (.slice (some ⟨nb, 0, none⟩) n n)
        have t1 := t0.1.stored (k * 2 + 1) (.int .i64 m)
        have hsm : Same (w.heap.size + 1) w2 ((w2.setCell ⟨w.heap.size, k * 2, none⟩ (.slice (some ⟨nb, 0, none⟩) n n)).setCell ⟨w.heap.size, k * 2 + 1, none⟩ (.int .i64 m)) := (Same.of_set _ _ (by simp)).trans (Same.of_set _ _ (by simp))
        refine ⟨k + 1, _, by omega, by go_num, t1.1, ?_, ?_⟩
        · exact ((hb.trans (hb2.mono hb.size)).setCell (p := ⟨w.heap.size, _, none⟩) (Nat.le_refl _) _).setCell (p := ⟨w.heap.size, _, none⟩) (Nat.le_refl _) _
        · intro j p hj hp
          by_cases hjk : j = k
          · subst hjk
            rw [HG.out] at hp
            cases hp
            exact runHas_same (by rw [HX.out]; omega) (HL2.out.same hsm)
          · exact (HROW.out j p (by omega) hp).other hjk _ _ ((Same.of_below hb2).trans hsm)
      case measure => simp [intOf]; omega
    · go_wp2
      go_ret
      exact ⟨rfl, runsIn_of_row ho HLEN.out HWF.out (fun j p hp => HROW.out j p (by have := (List.getElem?_eq_some_iff.1 hp).1; rw [HLEN.out] at this; omega) hp), (ho.lt _ rfl).2, hb⟩
def LevHas (G : Nat) (w : World) (xs : List Value) (j : Nat) (p : List RunD) : Prop :=
  ∃ s n c, xs[j]? = some (.slice s n c) ∧ RunsIn (G + 1) w s n c p
theorem LevHas.other {G : Nat} {w w' : World} {xs : List Value} {j k : Nat} {p : List RunD} (h : LevHas G w xs j p) (hne : j ≠ k) (u0 : Value) (hs : Same (G + 1) w w') : LevHas G w' (xs.set k u0) j p := by
  obtain ⟨s, n, c, h0, h2⟩ := h
  exact ⟨s, n, c, by rw [List.getElem?_set_ne (by omega)]; exact h0, h2.same hs⟩
theorem levHas_same {G : Nat} {w : World} {xs : List Value} {k : Nat} {s : Option Addr} {n c : Nat} {B : List RunD} (h : k < xs.length) (hL : RunsIn (G + 1) w s n c B) : LevHas G w (xs.set k (.slice s n c)) k B :=
  ⟨s, n, c, by rw [List.getElem?_set_self (by omega)], hL⟩
theorem levelsIn_of_row {w : World} {base g n cap : Nat} {xs : List Value} {V : List (List RunD)} (h : w.ownsRow base 64 1 (.slice (some ⟨g, 0, none⟩) n cap) n xs) (hn : V.length = n) (_ : True)
    (hh : ∀ j p, V[j]? = some p → LevHas g w xs j p) : LevelsIn g w (some ⟨g, 0, none⟩) n cap V := by
  have hlt := (h.lt g rfl).2
  have hrc := row_rooms h
  refine ⟨hn, hrc.1, hrc.2, (fun e => by cases e), ?_, ?_⟩
  · rintro x e _
    cases e
    exact ⟨hlt, rfl, Nat.le_refl _⟩
  · rintro x e i hi
    cases e
    obtain ⟨s, m, c, r0, r2⟩ := hh i V[i] (List.getElem?_eq_getElem hi)
    refine ⟨s, m, c, ?_, r2.mono (by omega)⟩
    simp only [Nat.zero_add]
    exact (h.cellAt _ (by omega)).trans r0
set_option maxHeartbeats 1600000 in
theorem toRunSS_any (lo : Nat) (a : Option Addr) (len cap : Nat) (V : List (List RunD)) (w : World) (hP : LevelsIn lo w a len cap V) (hS : SmallV V) :
    Calls Tryz.prog 40 #[.slice a len cap] w fun e w' => e = .returned (.slice (some ⟨w.heap.size, 0, none⟩) len len) ∧ LevelsIn w.heap.size w' (some ⟨w.heap.size, 0, none⟩) len len V ∧ w.heap.size < w'.heap.size ∧ Below w.heap.size w w' := by
  have HLEN : Hid (V.length = len) := hP.length
  have HWF : Hid (True) := trivial
  have hbig : len ≤ 1048576 := by have := hP.length; have := hS.1; omega
  have HSM : Hid (SmallV V) := hS
  have HL : Hid (LevelsIn lo w a len cap V) := hP
  clear hP hS
  obtain ⟨i0, hi, hz0, hz1, hz2⟩ := info_parts Tryz.infoRunL
  go_enter Tryz.func40, Tryz.ntmps40
  go_wp2_with (at_make; refine wpList_make_full _ rfl _ _ 29 rfl w.heap.size 64 i0 _ 1 Tryz.underlying29 hi hz0 hz1 .i64 .i64 _ _ len rfl rfl (by simp) (by simp) (by rw [hz2]; omega) (by unfold maxLen; omega) (Nat.le_refl _) ?_; intro w1 hown hgrow)
  have hb1 : Below w.heap.size w w1 := (Below.refl _ _).grown hgrow (Nat.le_refl _) (by simp)
  have hsz1 : w.heap.size < w1.heap.size := (hown.lt _ rfl).2
  go_loopw [4] (fun i wr => ∃ (k : Nat) (xs : List Value), k ≤ len ∧ i = .int .i64 k ∧ wr.ownsRow w.heap.size 64 1 (.slice (some ⟨w.heap.size, 0, none⟩) len len) len xs ∧ Below w.heap.size w wr ∧ (∀ j p, j < k → V[j]? = some p → LevHas w.heap.size wr xs j p)) (fun i _ => len - (intOf i).toNat)
  case atStart => exact ⟨0, _, Nat.zero_le _, rfl, hown, hb1, fun j l h => absurd h (Nat.not_lt_zero _)⟩
  case round =>
    obtain ⟨k, xs, hk, rfl, ho, hb, hrow⟩ := hrel
    have HROW : Hid (∀ j p, j < k → V[j]? = some p → LevHas w.heap.size wr xs j p) := hrow
    clear hrow hown hgrow
    have hzr : w.heap.size < wr.heap.size := (ho.lt _ rfl).2
    by_cases hlt : k < len
    · obtain ⟨b, off, rfl, hbb⟩ := HL.out.form (by omega)
      obtain ⟨B, s, n, c, hg, g0, hLk⟩ := HL.out.level hb k hlt
      have hn : SmallR B := HSM.out.2 _ (List.mem_of_getElem? hg)
      have HG : Hid (V[k]? = some B) := hg
      have hbk : b < wr.heap.size := Nat.lt_of_lt_of_le hbb hb.size
      clear hg
      have hxl := ho.1
      have HX : Hid (xs.length = len * 1) := hxl
      clear hxl
      have HO : Hid (wr.ownsRow w.heap.size 64 1 (.slice (some ⟨w.heap.size, 0, none⟩) len len) len xs) := ho
      clear ho
      go_wp2_with fail
      refine (toRunS_any lo _ _ _ B _ hLk hn).mono ?_
      rintro e w2 ⟨rfl, hL2, _, hb2⟩
      have HL2 : Hid (RunsIn (w.heap.size + 1) w2 (some ⟨wr.heap.size, 0, none⟩) n n B) := hL2.mono hzr
      clear hL2 hLk hn
      have ho2 : w2.ownsRow w.heap.size 64 1 (.slice (some ⟨w.heap.size, 0, none⟩) len len) len xs := HO.out.kept (row := none) ⟨hb2.os, hb2.tape, hb2.output, hb2.size, fun k hk _ => hb2.block k hk⟩ (.inr (by simp [Value.ownBlock]))
      have c0 : ∃ v, w2.cell? ⟨w.heap.size, k, none⟩ = some v := ⟨_, (ho2.cellAt _ (by omega)).trans (List.getElem?_eq_getElem (by rw [HX.out]; omega))⟩
      obtain ⟨v0, c0⟩ := c0
      have f0 : w2.frozen? ⟨w.heap.size, k, none⟩ = false := ho2.frozenAt _
      have HO2 : Hid (w2.ownsRow w.heap.size 64 1 (.slice (some ⟨w.heap.size, 0, none⟩) len len) len xs) := ho2
      clear ho2
      go_wp2
      go_roundw
      case rel =>
        have t0 := HO2.out.stored k (.slice (some ⟨wr.heap.size, 0, none⟩) n n)
        have hsm : Same (w.heap.size + 1) w2 (w2.setCell ⟨w.heap.size, k, none⟩ (.slice (some ⟨wr.heap.size, 0, none⟩) n n)) := Same.of_set _ _ (by simp)
        refine ⟨k + 1, _, by omega, by go_num, t0.1, ?_, ?_⟩
        · exact (hb.trans (hb2.mono hb.size)).setCell (p := ⟨w.heap.size, _, none⟩) (Nat.le_refl _) _
        · intro j p hj hp
          by_cases hjk : j = k
          · subst hjk
            rw [HG.out] at hp
            cases hp
            exact levHas_same (by rw [HX.out]; omega) (HL2.out.same hsm)
          · exact (HROW.out j p (by omega) hp).other hjk _ ((Same.of_below hb2).trans hsm)
      case measure => simp [intOf]; omega
    · go_wp2
      go_ret
      exact ⟨rfl, levelsIn_of_row ho HLEN.out HWF.out (fun j p hp => HROW.out j p (by have := (List.getElem?_eq_some_iff.1 hp).1; rw [HLEN.out] at this; omega) hp), (ho.lt _ rfl).2, hb⟩
theorem intsIn_of_row {w : World} {base g n cap : Nat} {xs : List Value} {S : List Int} (h : w.ownsRow base 3 1 (.slice (some ⟨g, 0, none⟩) n cap) n xs) (hn : S.length = n) (hw : ∀ q ∈ S, (Lit.int .i64 q).wf = true)
    (hh : ∀ (j : Nat) (q : Int), S[j]? = some q → xs[j]? = some (Value.int .i64 q)) : IntsIn g w (some ⟨g, 0, none⟩) n cap S := by
  have hlt := (h.lt g rfl).2
  have hrc := row_rooms h
  refine ⟨hn, hrc.1, hrc.2, hw, (fun e => by cases e), ?_, ?_⟩
  · rintro x e _
    cases e
    exact ⟨hlt, rfl, Nat.le_refl _⟩
  · rintro x e i hi
    cases e
    simp only [Nat.zero_add]
    exact (h.cellAt _ (by omega)).trans (hh i _ (List.getElem?_eq_getElem hi))
set_option maxHeartbeats 1600000 in
theorem toIntS_any (lo : Nat) (a : Option Addr) (len cap : Nat) (S : List Int) (w : World) (hP : IntsIn lo w a len cap S) (hbig : len ≤ 1048576) :
    Calls Tryz.prog 41 #[.slice a len cap] w fun e w' => e = .returned (.slice (some ⟨w.heap.size, 0, none⟩) len len) ∧ IntsIn w.heap.size w' (some ⟨w.heap.size, 0, none⟩) len len S ∧ w.heap.size < w'.heap.size ∧ Below w.heap.size w w' := by
  have HLEN : Hid (S.length = len) := hP.length
  have HWF : Hid (∀ q ∈ S, (Lit.int .i64 q).wf = true) := hP.wfs
  have HL : Hid (IntsIn lo w a len cap S) := hP
  clear hP
  obtain ⟨i0, hi, hz0, hz1, hz2⟩ := info_parts Tryz.infoInt
  go_enter Tryz.func41, Tryz.ntmps41
  go_wp2_with (at_make; refine wpList_make_full _ rfl _ _ 24 rfl w.heap.size 3 i0 _ 1 Tryz.underlying24 hi hz0 hz1 .i64 .i64 _ _ len rfl rfl (by simp) (by simp) (by rw [hz2]; omega) (by unfold maxLen; omega) (Nat.le_refl _) ?_; intro w1 hown hgrow)
  have hb1 : Below w.heap.size w w1 := (Below.refl _ _).grown hgrow (Nat.le_refl _) (by simp)
  go_loopw [4] (fun i wr => ∃ (k : Nat) (xs : List Value), k ≤ len ∧ i = .int .i64 k ∧ wr.ownsRow w.heap.size 3 1 (.slice (some ⟨w.heap.size, 0, none⟩) len len) len xs ∧ Below w.heap.size w wr ∧ (∀ j q, j < k → S[j]? = some q → xs[j]? = some (Value.int .i64 q))) (fun i _ => len - (intOf i).toNat)
  case atStart => exact ⟨0, _, Nat.zero_le _, rfl, hown, hb1, fun j l h => absurd h (Nat.not_lt_zero _)⟩
  case round =>
    obtain ⟨k, xs, hk, rfl, ho, hb, hrow⟩ := hrel
    have HROW : Hid (∀ j q, j < k → S[j]? = some q → xs[j]? = some (Value.int .i64 q)) := hrow
    clear hrow hown hgrow
    by_cases hlt : k < len
    · obtain ⟨b, off, rfl, hbb⟩ := HL.out.form (by omega)
      obtain ⟨q, hg, _, g0⟩ := HL.out.num hb k hlt
      have HG : Hid (S[k]? = some q) := hg
      have hbk : b < wr.heap.size := Nat.lt_of_lt_of_le hbb hb.size
      have hzr : w.heap.size < wr.heap.size := (ho.lt _ rfl).2
      clear hg
      have hxl := ho.1
      have HX : Hid (xs.length = len * 1) := hxl
      clear hxl
      have c0 : ∃ v, wr.cell? ⟨w.heap.size, k, none⟩ = some v := ⟨_, (ho.cellAt _ (by omega)).trans (List.getElem?_eq_getElem (by rw [HX.out]; omega))⟩
      obtain ⟨v0, c0⟩ := c0
      have f0 : wr.frozen? ⟨w.heap.size, k, none⟩ = false := ho.frozenAt _
      have HO : Hid (wr.ownsRow w.heap.size 3 1 (.slice (some ⟨w.heap.size, 0, none⟩) len len) len xs) := ho
      clear ho
      go_wp2
      go_roundw
      case rel =>
        have t0 := HO.out.stored k (.int .i64 q)
        refine ⟨k + 1, _, by omega, by go_num, t0.1, hb.setCell (p := ⟨w.heap.size, _, none⟩) (Nat.le_refl _) _, ?_⟩
        intro j p hj hp
        by_cases hjk : j = k
        · subst hjk
          rw [HG.out] at hp
          cases hp
          rw [List.getElem?_set_self (by rw [HX.out]; omega)]
        · rw [List.getElem?_set_ne (by omega)]
          exact HROW.out j p (by omega) hp
      case measure => simp [intOf]; omega
    · go_wp2
      go_ret
      exact ⟨rfl, intsIn_of_row ho HLEN.out HWF.out (fun j p hp => HROW.out j p (by have := (List.getElem?_eq_some_iff.1 hp).1; rw [HLEN.out] at this; omega) hp), (ho.lt _ rfl).2, hb⟩
end Go.Proofs.YtlmgojlffgkciaaGreat

namespace Go.Proofs.YtlmgojlffgkciaaGreat
open Go.RowKit
set_option maxHeartbeats 800000 in
theorem eqEntsOpt (a1 a2 : Option Addr) (len cap1 cap2 : Nat) (L : List EntD) (w : World) (h1 : EntsAt w a1 len cap1 L) (h2 : EntsAt w a2 len cap2 L) :
    Calls Tryz.prog 26 #[.slice a1 len cap1, .slice a2 len cap2] w fun e w' => e = .returned (.bool true) ∧ Below w.heap.size w w' := by
  by_cases h0 : len = 0
  · subst h0
    go_enter Tryz.func26, Tryz.ntmps26
    go_wp2
    go_loopw [5] (fun i wr => i = .int .i64 0 ∧ Below w.heap.size w wr) (fun i _ => 0)
    case atStart => exact ⟨rfl, Below.refl _ _⟩
    case round =>
      obtain ⟨rfl, hb⟩ := hrel
      go_wp2
      go_ret
      exact ⟨rfl, hb⟩
  · obtain ⟨b1, o1, rfl, _⟩ := h1.form (by omega)
    obtain ⟨b2, o2, rfl, _⟩ := h2.form (by omega)
    exact eqEntS_same _ _ _ _ _ _ _ L _ h1 h2
set_option maxHeartbeats 800000 in
theorem eqRun_opt (m : Int) (a1 a2 : Option Addr) (len cap1 cap2 : Nat) (L : List EntD) (w : World) (h1 : EntsAt w a1 len cap1 L) (h2 : EntsAt w a2 len cap2 L) :
    Calls Tryz.prog 123 #[.agg #[.slice a1 len cap1, .int .i64 m], .agg #[.slice a2 len cap2, .int .i64 m]] w fun e w' => e = .returned (.bool true) ∧ Below w.heap.size w w' := by
  have hB : Below w.heap.size w ((w.alloc (.cells #[.slice a1 len cap1, .int .i64 m] 102)).alloc (.cells #[.slice a2 len cap2, .int .i64 m] 102)) := ((Below.refl _ _).alloc (Nat.le_refl _) _).alloc (by simp) _
  go_enter Tryz.func123, Tryz.ntmps123
  go_wp2_with (go_at_call 26; refine (eqEntsOpt _ _ _ _ _ L _ (h1.keep hB) (h2.keep hB)).mono ?_; rintro e w1 ⟨rfl, hb1⟩; obtain ⟨hc1, hf1⟩ := bcell hb1)
  go_ret
  exact ⟨rfl, hB.trans (hb1.mono (by simp; omega))⟩
set_option maxHeartbeats 1600000 in
theorem eqRunS_opt (lo1 lo2 : Nat) (a1 a2 : Option Addr) (len cap1 cap2 : Nat) (B : List RunD) (w : World) (h1 : RunsIn lo1 w a1 len cap1 B) (h2 : RunsIn lo2 w a2 len cap2 B) :
    Calls Tryz.prog 82 #[.slice a1 len cap1, .slice a2 len cap2] w fun e w' => e = .returned (.bool true) ∧ Below w.heap.size w w' := by
  have hbl := h1.room
  have hbc := h1.big
  unfold maxLen at hbc
  have H1 : Hid (RunsIn lo1 w a1 len cap1 B) := h1
  have H2 : Hid (RunsIn lo2 w a2 len cap2 B) := h2
  clear h1 h2
  go_enter Tryz.func82, Tryz.ntmps82
  go_wp2
  go_loopw [5] (fun i wr => ∃ k : Nat, k ≤ len ∧ i = .int .i64 k ∧ Below w.heap.size w wr) (fun i _ => len - (intOf i).toNat)
  case atStart => exact ⟨0, Nat.zero_le _, rfl, Below.refl _ _⟩
  case round =>
    obtain ⟨k, hk, rfl, hb⟩ := hrel
    by_cases hlt : k < len
    · obtain ⟨b1, o1, rfl, hb1⟩ := H1.out.form (by omega)
      obtain ⟨b2, o2, rfl, hb2⟩ := H2.out.form (by omega)
      obtain ⟨L, m, s, n, c, hg, _, g0, g1, hLk⟩ := H1.out.run hb k hlt
      obtain ⟨L', m', s', n', c', hg', _, q0, q1, hLk'⟩ := H2.out.run hb k hlt
      rw [hg] at hg'
      cases hg'
      obtain rfl : n' = n := hLk'.1.length.symm.trans hLk.1.length
      have hb1' : b1 < wr.heap.size := Nat.lt_of_lt_of_le hb1 hb.size
      have hb2' : b2 < wr.heap.size := Nat.lt_of_lt_of_le hb2 hb.size
      have lk := hLk.1.keep ((Below.refl _ wr).drew)
      have lk' := hLk'.1.keep ((Below.refl _ wr).drew)
      clear hg hLk hLk'
      have hltI : (k : Int) < (len : Int) := by omega
      go_wp2_with fail
      go_region_with (go_at_call 123; refine (eqRun_opt _ _ _ _ _ _ L _ lk lk').mono ?_; rintro e w1 ⟨rfl, hb1⟩)
      all_goals
        go_wp2
        go_roundw
        case rel => exact ⟨k + 1, by omega, by go_num, hb.drew.trans (hb1.mono hb.size)⟩
        case measure => simp [intOf]; omega
    · go_wp2
      go_ret
      exact ⟨rfl, hb⟩
set_option maxHeartbeats 1600000 in
theorem eqRunSS_opt (lo1 lo2 : Nat) (a1 a2 : Option Addr) (len cap1 cap2 : Nat) (V : List (List RunD)) (w : World) (h1 : LevelsIn lo1 w a1 len cap1 V) (h2 : LevelsIn lo2 w a2 len cap2 V) :
    Calls Tryz.prog 44 #[.slice a1 len cap1, .slice a2 len cap2] w fun e w' => e = .returned (.bool true) ∧ Below w.heap.size w w' := by
  have hbl := h1.room
  have hbc := h1.big
  unfold maxLen at hbc
  have H1 : Hid (LevelsIn lo1 w a1 len cap1 V) := h1
  have H2 : Hid (LevelsIn lo2 w a2 len cap2 V) := h2
  clear h1 h2
  go_enter Tryz.func44, Tryz.ntmps44
  go_wp2
  go_loopw [5] (fun i wr => ∃ k : Nat, k ≤ len ∧ i = .int .i64 k ∧ Below w.heap.size w wr) (fun i _ => len - (intOf i).toNat)
  case atStart => exact ⟨0, Nat.zero_le _, rfl, Below.refl _ _⟩
  case round =>
    obtain ⟨k, hk, rfl, hb⟩ := hrel
    by_cases hlt : k < len
    · obtain ⟨b1, o1, rfl, hb1⟩ := H1.out.form (by omega)
      obtain ⟨b2, o2, rfl, hb2⟩ := H2.out.form (by omega)
      obtain ⟨B, s, n, c, hg, g0, hLk⟩ := H1.out.level hb k hlt
      obtain ⟨B', s', n', c', hg', q0, hLk'⟩ := H2.out.level hb k hlt
      rw [hg] at hg'
      cases hg'
      obtain rfl : n' = n := hLk'.length.symm.trans hLk.length
      have hb1' : b1 < wr.heap.size := Nat.lt_of_lt_of_le hb1 hb.size
      have hb2' : b2 < wr.heap.size := Nat.lt_of_lt_of_le hb2 hb.size
      have lk := hLk.keep ((Below.refl _ wr).drew)
      have lk' := hLk'.keep ((Below.refl _ wr).drew)
      clear hg hLk hLk'
      have hltI : (k : Int) < (len : Int) := by omega
      go_wp2_with fail
      go_region_with (go_at_call 82; refine (eqRunS_opt lo1 lo2 _ _ _ _ _ B _ lk lk').mono ?_; rintro e w1 ⟨rfl, hb1⟩)
      all_goals
        go_wp2
        go_roundw
        case rel => exact ⟨k + 1, by omega, by go_num, hb.drew.trans (hb1.mono hb.size)⟩
        case measure => simp [intOf]; omega
    · go_wp2
      go_ret
      exact ⟨rfl, hb⟩
set_option maxHeartbeats 1600000 in
theorem eqIntS_opt (lo1 lo2 : Nat) (a1 a2 : Option Addr) (len cap1 cap2 : Nat) (S : List Int) (w : World) (h1 : IntsIn lo1 w a1 len cap1 S) (h2 : IntsIn lo2 w a2 len cap2 S) :
    Calls Tryz.prog 45 #[.slice a1 len cap1, .slice a2 len cap2] w fun e w' => e = .returned (.bool true) ∧ Below w.heap.size w w' := by
  have hbl := h1.room
  have hbc := h1.big
  unfold maxLen at hbc
  have H1 : Hid (IntsIn lo1 w a1 len cap1 S) := h1
  have H2 : Hid (IntsIn lo2 w a2 len cap2 S) := h2
  clear h1 h2
  go_enter Tryz.func45, Tryz.ntmps45
  go_wp2
  go_loopw [5] (fun i wr => ∃ k : Nat, k ≤ len ∧ i = .int .i64 k ∧ Below w.heap.size w wr) (fun i _ => len - (intOf i).toNat)
  case atStart => exact ⟨0, Nat.zero_le _, rfl, Below.refl _ _⟩
  case round =>
    obtain ⟨k, hk, rfl, hb⟩ := hrel
    by_cases hlt : k < len
    · obtain ⟨b1, o1, rfl, hb1⟩ := H1.out.form (by omega)
      obtain ⟨b2, o2, rfl, hb2⟩ := H2.out.form (by omega)
      obtain ⟨q, hg, _, g0⟩ := H1.out.num hb k hlt
      obtain ⟨q', hg', _, q0⟩ := H2.out.num hb k hlt
      rw [hg] at hg'
      cases hg'
      have hb1' : b1 < wr.heap.size := Nat.lt_of_lt_of_le hb1 hb.size
      have hb2' : b2 < wr.heap.size := Nat.lt_of_lt_of_le hb2 hb.size
      clear hg
      have hltI : (k : Int) < (len : Int) := by omega
      go_wp2_with fail
      go_quiet (fail)
      go_wp2
      go_roundw
      case rel => exact ⟨k + 1, by omega, by go_num, below_drewN hb _⟩
      case measure => simp [intOf]; omega
    · go_wp2
      go_ret
      exact ⟨rfl, hb⟩
set_option maxHeartbeats 800000 in
theorem eqTree_opt (q : Int) (lo1 lo2 : Nat) (am av ak : Option Addr) (nm cm nv cv ns cs : Nat) (am' av' ak' : Option Addr) (cm' cv' cs' : Nat) (M : List EntD) (V : List (List RunD)) (S : List Int) (w : World) (h1 : TreeIn lo1 w am nm cm av nv cv ak ns cs M V S) (h2 : TreeIn lo2 w am' nm cm' av' nv cv' ak' ns cs' M V S) :
    Calls Tryz.prog 14 #[.agg #[.int .i64 q, .slice am nm cm, .slice av nv cv, .slice ak ns cs], .agg #[.int .i64 q, .slice am' nm cm', .slice av' nv cv', .slice ak' ns cs']] w fun e w' => e = .returned (.bool true) ∧ Below w.heap.size w w' := by
  obtain ⟨W, hW⟩ : ∃ W, W = (w.alloc (.cells #[.int .i64 q, .slice am nm cm, .slice av nv cv, .slice ak ns cs] 31)).alloc (.cells #[.int .i64 q, .slice am' nm cm', .slice av' nv cv', .slice ak' ns cs'] 31) := ⟨_, rfl⟩
  have hB : Below w.heap.size w W := by rw [hW]; exact ((Below.refl _ _).alloc (Nat.le_refl _) _).alloc (by simp) _
  have x2 : W.cell? ⟨w.heap.size, 2, none⟩ = some (.slice av nv cv) := by rw [hW]; simp
  have x3 : W.cell? ⟨w.heap.size, 3, none⟩ = some (.slice ak ns cs) := by rw [hW]; simp
  have y2 : W.cell? ⟨w.heap.size + 1, 2, none⟩ = some (.slice av' nv cv') := by rw [hW]; simp
  have y3 : W.cell? ⟨w.heap.size + 1, 3, none⟩ = some (.slice ak' ns cs') := by rw [hW]; simp
  have H1 : Hid (TreeIn lo1 W am nm cm av nv cv ak ns cs M V S) := h1.keep hB
  have H2 : Hid (TreeIn lo2 W am' nm cm' av' nv cv' ak' ns cs' M V S) := h2.keep hB
  have HB : Hid (Below w.heap.size w W) := hB
  clear h1 h2 hB
  go_enter Tryz.func14, Tryz.ntmps14
  go_wp2_with fail
  rw [← hW]
  clear hW
  refine (eqEntsOpt _ _ _ _ _ M _ H1.out.mem.1 H2.out.mem.1).mono ?_
  rintro e w1 ⟨rfl, hb1⟩
  have x2 := cell_later hb1 x2
  have x3 := cell_later hb1 x3
  have y2 := cell_later hb1 y2
  have y3 := cell_later hb1 y3
  have z1 := World.block_lt_of_cell? _ _ x2
  have z2 := World.block_lt_of_cell? _ _ y2
  simp only at z1 z2
  have K1 : Hid (Below W.heap.size W w1) := hb1
  clear hb1
  go_wp2_with fail
  refine (eqRunSS_opt lo1 lo2 _ _ _ _ _ V _ (H1.out.keep K1.out).levels (H2.out.keep K1.out).levels).mono ?_
  rintro e w2 ⟨rfl, hb2⟩
  have x3 := cell_later hb2 x3
  have y3 := cell_later hb2 y3
  have z1 := World.block_lt_of_cell? _ _ x3
  have z2 := World.block_lt_of_cell? _ _ y3
  simp only at z1 z2
  have K2 : Hid (Below W.heap.size W w2) := K1.out.trans (hb2.mono K1.out.size)
  clear hb2 K1
  go_wp2_with fail
  refine (eqIntS_opt lo1 lo2 _ _ _ _ _ S _ (H1.out.keep K2.out).snaps (H2.out.keep K2.out).snaps).mono ?_
  rintro e w3 ⟨rfl, hb3⟩
  have K3 : Hid (Below W.heap.size W w3) := K2.out.trans (hb3.mono K2.out.size)
  clear hb3 K2
  go_wp2
  go_ret
  exact ⟨rfl, HB.out.trans (K3.out.mono HB.out.size)⟩
def SmallT (M : List EntD) (V : List (List RunD)) (S : List Int) : Prop := M.length ≤ 1048576 ∧ SmallV V ∧ S.length ≤ 1048576
end Go.Proofs.YtlmgojlffgkciaaGreat
