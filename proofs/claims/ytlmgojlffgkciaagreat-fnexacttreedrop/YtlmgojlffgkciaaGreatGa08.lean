/-
  The laws' size of runs, levels, trees: with the sum, and what it says of the texts; by walks of their Go text.
  A tree that was answered: in memory of a call's own, or the tree of nothing; the laws' marks on it, and the marks found again; by walks of their Go text.
  What a loop body over a function leaves as it was; no statement of the program stands here.
  slices.Backward at entries: what it yields, for every loop body that keeps what it reads, by walks of its Go text.
-/
import Derived.Test.YtlmgojlffgkciaaGreatGa07
import Derived.Test.YtlmgojlffgkciaaGreatGa04
import Derived.Test.YtlmgojlffgkciaaGreatGa02
import Derived.Test.YtlmgojlffgkciaaGreatGa06
import Derived.RangeFuncNested
import Derived.RangeFuncBound
import Derived.RangeFuncCalls
import Derived.RangeFuncLeaves
import Derived.RangeFuncBox
import Derived.Shelf.Abstract
import Derived.Shelf.RegionOpen
import Derived.WalkKit
import Derived.OwnWalkIn
import Derived.TacticsInMore
import Derived.LoopNIn
import Derived.LoopIn
import Derived.Test.YtlmgojlffgkciaaGreatGa00
namespace Go.Proofs.YtlmgojlffgkciaaGreat
open Go.RowKit
def szL (B : List RunD) : Nat := (B.map fun p => p.1.length).sum
def szV (V : List (List RunD)) : Nat := (V.map fun B => szL B + B.length).sum
def SmB (B : List RunD) : Prop := ∀ p ∈ B, ∀ e ∈ p.1, SmT e
theorem szL_take {B : List RunD} {k : Nat} {p : RunD} (h : B[k]? = some p) : szL (B.take (k + 1)) = szL (B.take k) + p.1.length := by
  rw [List.take_add_one, h]
  simp [szL]
theorem szV_take {V : List (List RunD)} {k : Nat} {B : List RunD} (h : V[k]? = some B) : szV (V.take (k + 1)) = szV (V.take k) + (szL B + B.length) := by
  rw [List.take_add_one, h]
  simp [szV]
theorem mem_take_snoc {α : Type} {L : List α} {k : Nat} {x y : α} (h : L[k]? = some x) (hy : y ∈ L.take (k + 1)) : y ∈ L.take k ∨ y = x := by
  rw [List.take_add_one, h] at hy
  simpa using hy
theorem mkR_sz (B : List RunD) : mkR B = 5 * szL B + B.length := by
  induction B with
  | nil => rfl
  | cons p B ih =>
    simp only [mkR, szL, List.map_cons, List.sum_cons, List.length_cons] at ih ⊢
    omega
theorem mkV_sz (V : List (List RunD)) : mkV V ≤ 5 * szV V := by
  induction V with
  | nil => simp [mkV, szV]
  | cons B V ih =>
    have h := mkR_sz B
    simp only [mkV, szV, List.map_cons, List.sum_cons] at ih ⊢
    omega
theorem szL_mem {B : List RunD} {p : RunD} (h : p ∈ B) : p.1.length ≤ szL B := by
  induction B with
  | nil => cases h
  | cons x B ih =>
    simp only [szL, List.map_cons, List.sum_cons] at ih ⊢
    rcases List.mem_cons.1 h with rfl | h
    · omega
    · have := ih h; omega
theorem szV_mem {V : List (List RunD)} {B : List RunD} (h : B ∈ V) : szL B + B.length ≤ szV V := by
  induction V with
  | nil => cases h
  | cons x V ih =>
    simp only [szV, List.map_cons, List.sum_cons] at ih ⊢
    rcases List.mem_cons.1 h with rfl | h
    · omega
    · have := ih h; omega
set_option maxHeartbeats 400000 in
theorem szRun_sum (m : Int) (a : Option Addr) (len cap : Nat) (L : List EntD) (left : Int) (w : World) (hL : EntsAt w a len cap L) (h0 : 0 ≤ left) (h1 : left ≤ 1048576) :
    Calls Tryz.prog 113 #[.agg #[.slice a len cap, .int .i64 m], .int .i64 left] w fun e w' => ∃ r : Int, e = .returned (.int .i64 r) ∧ (r = -1 ∨ (0 ≤ r ∧ r + L.length ≤ left ∧ ∀ e ∈ L, SmT e)) ∧ Below w.heap.size w w' := by
  have hL1 : EntsAt (w.alloc (.cells #[.slice a len cap, .int .i64 m] 144)) a len cap L := hL.keep ((Below.refl _ _).alloc (Nat.le_refl _) _)
  go_enter Tryz.func113, Tryz.ntmps113
  go_wp2_with (go_at_call 22; refine (szEntS_sum _ _ _ _ _ _ hL1 h0 h1).mono ?_; rintro e w1 ⟨r, rfl, hr, hb1⟩)
  · go_ret
    exact ⟨-1, rfl, Or.inl rfl, ((Below.refl _ _).alloc (Nat.le_refl _) _).trans (hb1.mono (by simp))⟩
  · go_ret
    exact ⟨r, rfl, hr, ((Below.refl _ _).alloc (Nat.le_refl _) _).trans (hb1.mono (by simp))⟩
set_option maxHeartbeats 800000 in
theorem szRunS_sum (lo : Nat) (a : Option Addr) (len cap : Nat) (B : List RunD) (left : Int) (w : World) (hP : RunsIn lo w a len cap B) (h0 : 0 ≤ left) (h1 : left ≤ 1048576) :
    Calls Tryz.prog 71 #[.slice a len cap, .int .i64 left] w fun e w' => ∃ r : Int, e = .returned (.int .i64 r) ∧ (r = -1 ∨ (0 ≤ r ∧ r + (szL B + B.length : Nat) ≤ left ∧ SmB B)) ∧ Below w.heap.size w w' := by
  have hbl := hP.room
  have hbc := hP.big
  unfold maxLen at hbc
  have HL : Hid (RunsIn lo w a len cap B) := hP
  have HLEN : Hid (B.length = len) := hP.length
  clear hP
  by_cases hb : left < len
  · go_enter Tryz.func71, Tryz.ntmps71
    go_wp2
    go_ret
    exact ⟨-1, rfl, Or.inl rfl, Below.refl _ _⟩
  · go_enter Tryz.func71, Tryz.ntmps71
    go_wp2
    go_loopw [1, 5] (fun l i wr => ∃ (k : Nat) (r : Int), k ≤ len ∧ i = .int .i64 k ∧ l = .int .i64 r ∧ 0 ≤ r ∧ r ≤ left ∧ r + szL (B.take k) + len ≤ left ∧ Below w.heap.size w wr ∧ ∀ p ∈ B.take k, ∀ e ∈ p.1, SmT e) (fun _ i _ => len - (intOf i).toNat)
    case atStart => exact ⟨0, left - len, Nat.zero_le _, rfl, rfl, by omega, by omega, by simp [szL], Below.refl _ _, fun p hp => by simp at hp⟩
    case round =>
      obtain ⟨k, r, hk, rfl, rfl, hr0, hr1, hrs, hbw, hall⟩ := hrel
      have HALL : Hid (∀ p ∈ B.take k, ∀ e ∈ p.1, SmT e) := hall
      have HRS : Hid (r + szL (B.take k) + len ≤ left) := hrs
      clear hall hrs
      by_cases hlt : k < len
      · obtain ⟨b, off, rfl, hbb⟩ := HL.out.form (by omega)
        obtain ⟨L, m, s, n, c, hg, _, g0, g1, hLk⟩ := HL.out.run hbw k hlt
        have HG : Hid (B[k]? = some (L, m)) := hg
        have hbk : b < wr.heap.size := Nat.lt_of_lt_of_le hbb hbw.size
        clear hg
        go_wp2_with (go_at_call 113; refine (szRun_sum _ _ _ _ L _ _ hLk.1 hr0 (by omega)).mono ?_; rintro e w1 ⟨r', rfl, hr', hb1⟩; rcases hr' with rfl | ⟨hr0', hr1', hln⟩)
        · go_ret
          exact ⟨-1, rfl, Or.inl rfl, hbw.trans (hb1.mono hbw.size)⟩
        · have HR1 : Hid (r' + L.length ≤ r) := hr1'
          have hrl : r' ≤ left := by omega
          have HLN : Hid (∀ e ∈ L, SmT e) := hln
          clear hr1' hln
          go_wp2
          go_roundw
          case rel =>
            refine ⟨k + 1, r', by omega, by go_num, rfl, hr0', hrl, ?_, hbw.trans (hb1.mono hbw.size), fun p hp => ?_⟩
            · have h1 := HR1.out
              have h2 := HRS.out
              have h3 := szL_take HG.out
              simp only at h3
              omega
            · rcases mem_take_snoc HG.out hp with h1 | rfl
              · exact HALL.out p h1
              · exact HLN.out
          case measure => simp [intOf]; omega
      · go_wp2
        go_ret
        have hkl : B.take k = B := List.take_of_length_le (by have := HLEN.out; omega)
        have h2 := HRS.out
        have h3 := HALL.out
        have h4 := HLEN.out
        rw [hkl] at h2 h3
        exact ⟨r, rfl, Or.inr ⟨hr0, by omega, h3⟩, hbw⟩
set_option maxHeartbeats 800000 in
theorem szRunSS_sum (lo : Nat) (a : Option Addr) (len cap : Nat) (V : List (List RunD)) (left : Int) (w : World) (hP : LevelsIn lo w a len cap V) (h0 : 0 ≤ left) (h1 : left ≤ 1048576) :
    Calls Tryz.prog 35 #[.slice a len cap, .int .i64 left] w fun e w' => ∃ r : Int, e = .returned (.int .i64 r) ∧ (r = -1 ∨ (0 ≤ r ∧ r + (szV V + V.length : Nat) ≤ left ∧ ∀ B ∈ V, SmB B)) ∧ Below w.heap.size w w' := by
  have hbl := hP.room
  have hbc := hP.big
  unfold maxLen at hbc
  have HL : Hid (LevelsIn lo w a len cap V) := hP
  have HLEN : Hid (V.length = len) := hP.length
  clear hP
  by_cases hb : left < len
  · go_enter Tryz.func35, Tryz.ntmps35
    go_wp2
    go_ret
    exact ⟨-1, rfl, Or.inl rfl, Below.refl _ _⟩
  · go_enter Tryz.func35, Tryz.ntmps35
    go_wp2
    go_loopw [1, 5] (fun l i wr => ∃ (k : Nat) (r : Int), k ≤ len ∧ i = .int .i64 k ∧ l = .int .i64 r ∧ 0 ≤ r ∧ r ≤ left ∧ r + szV (V.take k) + len ≤ left ∧ Below w.heap.size w wr ∧ ∀ p ∈ V.take k, SmB p) (fun _ i _ => len - (intOf i).toNat)
    case atStart => exact ⟨0, left - len, Nat.zero_le _, rfl, rfl, by omega, by omega, by simp [szV], Below.refl _ _, fun p hp => by simp at hp⟩
    case round =>
      obtain ⟨k, r, hk, rfl, rfl, hr0, hr1, hrs, hbw, hall⟩ := hrel
      have HALL : Hid (∀ p ∈ V.take k, SmB p) := hall
      have HRS : Hid (r + szV (V.take k) + len ≤ left) := hrs
      clear hall hrs
      by_cases hlt : k < len
      · obtain ⟨b, off, rfl, hbb⟩ := HL.out.form (by omega)
        obtain ⟨B, s, n, c, hg, g0, hLk⟩ := HL.out.level hbw k hlt
        have HG : Hid (V[k]? = some B) := hg
        have hbk : b < wr.heap.size := Nat.lt_of_lt_of_le hbb hbw.size
        clear hg
        go_wp2_with (go_at_call 71; refine (szRunS_sum lo _ _ _ B _ _ hLk hr0 (by omega)).mono ?_; rintro e w1 ⟨r', rfl, hr', hb1⟩; rcases hr' with rfl | ⟨hr0', hr1', hln⟩)
        · go_ret
          exact ⟨-1, rfl, Or.inl rfl, hbw.trans (hb1.mono hbw.size)⟩
        · have HR1 : Hid (r' + (szL B + B.length : Nat) ≤ r) := hr1'
          have hrl : r' ≤ left := by omega
          have HLN : Hid (SmB B) := hln
          clear hr1' hln
          go_wp2
          go_roundw
          case rel =>
            refine ⟨k + 1, r', by omega, by go_num, rfl, hr0', hrl, ?_, hbw.trans (hb1.mono hbw.size), fun p hp => ?_⟩
            · have h1 := HR1.out
              have h2 := HRS.out
              have h3 := szV_take HG.out
              omega
            · rcases mem_take_snoc HG.out hp with h1 | rfl
              · exact HALL.out p h1
              · exact HLN.out
          case measure => simp [intOf]; omega
      · go_wp2
        go_ret
        have hkl : V.take k = V := List.take_of_length_le (by have := HLEN.out; omega)
        have h2 := HRS.out
        have h3 := HALL.out
        have h4 := HLEN.out
        rw [hkl] at h2 h3
        exact ⟨r, rfl, Or.inr ⟨hr0, by omega, h3⟩, hbw⟩
set_option maxHeartbeats 800000 in
theorem szTree_sum (q : Int) (lo : Nat) (am av ak : Option Addr) (nm cm nv cv ns cs : Nat) (M : List EntD) (V : List (List RunD)) (S : List Int) (left : Int) (w : World) (h : TreeIn lo w am nm cm av nv cv ak ns cs M V S) (h0 : 0 ≤ left) (h1 : left ≤ 1048576) :
    Calls Tryz.prog 10 #[.agg #[.int .i64 q, .slice am nm cm, .slice av nv cv, .slice ak ns cs], .int .i64 left] w fun e w' => ∃ r : Int, e = .returned (.int .i64 r) ∧ (r = -1 ∨ (0 ≤ r ∧ r + (M.length + (szV V + V.length) + S.length : Nat) ≤ left ∧ (∀ e ∈ M, SmT e) ∧ ∀ B ∈ V, SmB B)) ∧ Below w.heap.size w w' := by
  obtain ⟨W, hW⟩ : ∃ W, W = w.alloc (.cells #[.int .i64 q, .slice am nm cm, .slice av nv cv, .slice ak ns cs] 26) := ⟨_, rfl⟩
  have hB : Below w.heap.size w W := by rw [hW]; exact (Below.refl _ _).alloc (Nat.le_refl _) _
  have x2 : W.cell? ⟨w.heap.size, 2, none⟩ = some (.slice av nv cv) := by rw [hW]; simp
  have x3 : W.cell? ⟨w.heap.size, 3, none⟩ = some (.slice ak ns cs) := by rw [hW]; simp
  have H1 : Hid (TreeIn lo W am nm cm av nv cv ak ns cs M V S) := h.keep hB
  have HB : Hid (Below w.heap.size w W) := hB
  clear h hB
  go_enter Tryz.func10, Tryz.ntmps10
  go_wp2_with fail
  rw [← hW]
  clear hW
  refine (szEntS_sum _ _ _ M _ _ H1.out.mem.1 h0 h1).mono ?_
  rintro e w1 ⟨r1, rfl, hr1, hb1⟩
  have x2 := cell_later hb1 x2
  have x3 := cell_later hb1 x3
  have z1 := World.block_lt_of_cell? _ _ x2
  simp only at z1
  have K1 : Hid (Below W.heap.size W w1) := hb1
  clear hb1
  rcases hr1 with rfl | ⟨a1, b1, c1⟩
  · go_wp2
    go_ret
    exact ⟨-1, rfl, Or.inl rfl, HB.out.trans (K1.out.mono HB.out.size)⟩
  have B1 : Hid (r1 + M.length ≤ left) := b1
  have C1 : Hid (∀ e ∈ M, SmT e) := c1
  have d1 : r1 ≤ left := by omega
  clear b1 c1
  go_wp2_with fail
  refine (szRunSS_sum lo _ _ _ V _ _ (H1.out.keep K1.out).levels a1 (by omega)).mono ?_
  rintro e w2 ⟨r2, rfl, hr2, hb2⟩
  have x3 := cell_later hb2 x3
  have z1 := World.block_lt_of_cell? _ _ x3
  simp only at z1
  have K2 : Hid (Below W.heap.size W w2) := K1.out.trans (hb2.mono K1.out.size)
  clear hb2 K1
  rcases hr2 with rfl | ⟨a2, b2, c2⟩
  · go_wp2
    go_ret
    exact ⟨-1, rfl, Or.inl rfl, HB.out.trans (K2.out.mono HB.out.size)⟩
  have B2 : Hid (r2 + (szV V + V.length : Nat) ≤ r1) := b2
  have C2 : Hid (∀ B ∈ V, SmB B) := c2
  have d2 : r2 ≤ r1 := by omega
  clear b2 c2
  have hsr := (H1.out.keep K2.out).snaps.room
  have hsb := (H1.out.keep K2.out).snaps.big
  have HSL : Hid (S.length = ns) := H1.out.snaps.length
  unfold maxLen at hsb
  have CI : Hid (∀ w', Calls Tryz.prog 36 #[.slice ak ns cs, .int .i64 r2] w' fun e w'' => ∃ r : Int, e = .returned (.int .i64 r) ∧ (r = -1 ∨ (0 ≤ r ∧ r + ns ≤ r2)) ∧ Below w'.heap.size w' w'') := by
    intro w'
    by_cases hb : r2 < ns
    · go_enter Tryz.func36, Tryz.ntmps36
      go_wp2
      go_ret
      exact ⟨-1, rfl, Or.inl rfl, Below.refl _ _⟩
    · go_enter Tryz.func36, Tryz.ntmps36
      go_wp2
      go_ret
      exact ⟨r2 - ns, rfl, Or.inr ⟨by omega, by omega⟩, Below.refl _ _⟩
  clear hsr hsb
  go_wp2_with fail
  refine (CI.out _).mono ?_
  rintro e w3 ⟨r3, rfl, hr3, hb3⟩
  have K3 : Hid (Below W.heap.size W w3) := K2.out.trans (hb3.mono K2.out.size)
  clear hb3 K2
  rcases hr3 with rfl | ⟨a3, b3⟩
  · go_wp2
    go_ret
    exact ⟨-1, rfl, Or.inl rfl, HB.out.trans (K3.out.mono HB.out.size)⟩
  · go_wp2
    go_ret
    have q1 := B1.out
    have q2 := B2.out
    have q3 := HSL.out
    exact ⟨r3, rfl, Or.inr ⟨a3, by omega, C1.out, C2.out⟩, HB.out.trans (K3.out.mono HB.out.size)⟩
theorem small_of_sum {M : List EntD} {V : List (List RunD)} {S : List Int} (h : M.length + (szV V + V.length) + S.length ≤ 1048576) : SmallT M V S :=
  ⟨by omega, ⟨by omega, fun B hB => ⟨by have := szV_mem hB; omega, fun p hp => by have h1 := szL_mem hp; have h2 := szV_mem hB; omega⟩⟩, by omega⟩
end Go.Proofs.YtlmgojlffgkciaaGreat

namespace Go.Proofs.YtlmgojlffgkciaaGreat
open Go.RowKit
set_option maxRecDepth 100000
set_option maxHeartbeats 2000000
theorem TreeIn.lowR {lo lo' : Nat} {w : World} {am av ak : Option Addr} {nm cm nv cv ns cs : Nat} {M : List EntD} {V : List (List RunD)} {S : List Int} (h : TreeIn lo w am nm cm av nv cv ak ns cs M V S) (hl : lo' ≤ lo) : TreeIn lo' w am nm cm av nv cv ak ns cs M V S := ⟨h.mem.mono hl, h.levels.mono hl, h.snaps.lower hl⟩
theorem KeepO.of_mark {lo hi : Nat} {w w' : World} (h : MarkT lo hi w w') : KeepO lo hi w w' := ⟨h.os, h.tape, h.output, h.size, h.far⟩
theorem LevsO.levelsIn {lo hi G n : Nat} {w : World} {V : List (List RunD)} {gs bs : Nat → Nat} {es : Nat → Nat → Nat} (h : LevsO lo hi w G n V gs bs es) : LevelsIn lo w (some ⟨G, 0, none⟩) n n V := by
  obtain ⟨xs, r1, r2⟩ := h.row
  have hrc := row_rooms r1
  have hl := h.len
  refine ⟨h.len, hrc.1, hrc.2, (fun e => by cases e), ?_, ?_⟩
  · rintro x e _
    cases e
    exact ⟨(r1.lt G rfl).2, rfl, (r1.lt G rfl).1⟩
  · rintro x e i hi
    cases e
    have hp := List.getElem?_eq_getElem hi
    have u := h.up 0 i (by omega) (by omega)
    refine ⟨_, _, _, ?_, (h.levs i _ hp).runsIn.mono (by have := h.bot.1; omega)⟩
    simp only [Nat.zero_add]
    exact (r1.cellAt _ (by omega)).trans (r2 i _ hp)
theorem TreeO.treeIn {lo hi b1 nm b2 nv b3 ns : Nat} {w : World} {M : List EntD} {V : List (List RunD)} {S : List Int} {gs bs : Nat → Nat} {es : Nat → Nat → Nat} (h : TreeO lo hi w b1 nm b2 nv b3 ns M V S gs bs es) (hw : ∀ z ∈ S, (Lit.int .i64 z).wf = true) : TreeIn 0 w (some ⟨b1, 0, none⟩) nm nm (some ⟨b2, 0, none⟩) nv nv (some ⟨b3, 0, none⟩) ns ns M V S := by
  have hrc := row_rooms h.sn.2
  have hl := h.sn.1
  refine ⟨⟨h.mem.entsAt, fun x e _ => Nat.zero_le _⟩, h.levs.levelsIn.mono (Nat.zero_le _), ⟨hl, hrc.1, hrc.2, hw, (fun e => by cases e), ?_, ?_⟩⟩
  · rintro x e _
    cases e
    exact ⟨(h.sn.2.lt b3 rfl).2, rfl, Nat.zero_le _⟩
  · rintro x e i hi
    cases e
    simp only [Nat.zero_add]
    have h1 := h.sn.2.cellAt i (by omega)
    rw [List.getElem?_map, List.getElem?_eq_getElem hi] at h1
    exact h1
def ResT (lo hi : Nat) (w : World) (am : Option Addr) (nm : Nat) (av : Option Addr) (nv : Nat) (ak : Option Addr) (ns : Nat) (M : List EntD) (V : List (List RunD)) (S : List Int) (gs bs : Nat → Nat) (es : Nat → Nat → Nat) : Prop :=
  (∃ b1 b2 b3, am = some ⟨b1, 0, none⟩ ∧ av = some ⟨b2, 0, none⟩ ∧ ak = some ⟨b3, 0, none⟩ ∧ TreeO lo hi w b1 nm b2 nv b3 ns M V S gs bs es) ∨ (am = none ∧ av = none ∧ ak = none ∧ nm = 0 ∧ nv = 0 ∧ ns = 0 ∧ M = [] ∧ V = [] ∧ S = [])
theorem ResT.below {lo hi nm nv ns : Nat} {am av ak : Option Addr} {w w' : World} {M : List EntD} {V : List (List RunD)} {S : List Int} {gs bs : Nat → Nat} {es : Nat → Nat → Nat} (h : ResT lo hi w am nm av nv ak ns M V S gs bs es) (hb : Below w.heap.size w w') : ResT lo hi w' am nm av nv ak ns M V S gs bs es := by
  rcases h with ⟨b1, b2, b3, h1, h2, h3, h4⟩ | h
  · exact .inl ⟨b1, b2, b3, h1, h2, h3, h4.below hb⟩
  · exact .inr h
theorem ResT.keepO {lo hi lo' hi' nm nv ns : Nat} {am av ak : Option Addr} {w w' : World} {M : List EntD} {V : List (List RunD)} {S : List Int} {gs bs : Nat → Nat} {es : Nat → Nat → Nat} (h : ResT lo hi w am nm av nv ak ns M V S gs bs es) (k : KeepO lo' hi' w w') (hd : hi' ≤ lo) : ResT lo hi w' am nm av nv ak ns M V S gs bs es := by
  rcases h with ⟨b1, b2, b3, h1, h2, h3, h4⟩ | h
  · exact .inl ⟨b1, b2, b3, h1, h2, h3, h4.keepO k hd⟩
  · exact .inr h
theorem treeIn_nil (lo : Nat) (w : World) : TreeIn lo w none 0 0 none 0 0 none 0 0 [] [] [] :=
  ⟨⟨⟨rfl, Nat.le_refl _, Nat.zero_le _, (fun e he => by cases he), fun _ => rfl, (fun x e => by cases e), (fun x e => by cases e)⟩, fun x e => by cases e⟩, ⟨rfl, Nat.le_refl _, Nat.zero_le _, fun _ => rfl, (fun x e => by cases e), (fun x e => by cases e)⟩, ⟨rfl, Nat.le_refl _, Nat.zero_le _, (fun z hz => by cases hz), fun _ => rfl, (fun x e => by cases e), (fun x e => by cases e)⟩⟩
theorem ResT.treeIn {lo hi nm nv ns : Nat} {am av ak : Option Addr} {w : World} {M : List EntD} {V : List (List RunD)} {S : List Int} {gs bs : Nat → Nat} {es : Nat → Nat → Nat} (h : ResT lo hi w am nm av nv ak ns M V S gs bs es) (hw : ∀ z ∈ S, (Lit.int .i64 z).wf = true) : TreeIn 0 w am nm nm av nv nv ak ns ns M V S := by
  rcases h with ⟨b1, b2, b3, rfl, rfl, rfl, h4⟩ | ⟨rfl, rfl, rfl, rfl, rfl, rfl, rfl, rfl, rfl⟩
  · exact h4.treeIn hw
  · exact treeIn_nil 0 w
theorem ResT.lens {lo hi nm nv ns : Nat} {am av ak : Option Addr} {w : World} {M : List EntD} {V : List (List RunD)} {S : List Int} {gs bs : Nat → Nat} {es : Nat → Nat → Nat} (h : ResT lo hi w am nm av nv ak ns M V S gs bs es) : M.length = nm ∧ V.length = nv ∧ S.length = ns := by
  rcases h with ⟨b1, b2, b3, rfl, rfl, rfl, h4⟩ | ⟨rfl, rfl, rfl, rfl, rfl, rfl, rfl, rfl, rfl⟩
  · exact ⟨h4.mem.len, h4.levs.len, h4.sn.1⟩
  · exact ⟨rfl, rfl, rfl⟩
theorem markLevs_nil (k : Nat) (w : World) :
    Calls Tryz.prog 46 #[.slice none 0 0, .int .i64 k] w fun e w' => e = .returned (.int .i64 (k : Int)) ∧ w' = w := by
  go_enter Tryz.func46, Tryz.ntmps46
  go_wp2
  go_loopw [1, 5] (fun kv i wr => kv = .int .i64 (k : Int) ∧ i = .int .i64 0 ∧ wr = w) (fun _ i _ => 0)
  case atStart => exact ⟨rfl, rfl, rfl⟩
  case round =>
    obtain ⟨rfl, rfl, rfl⟩ := hrel
    go_wp2
    go_ret
    exact ⟨rfl, rfl⟩
theorem heldLevs_nil (k : Nat) (w : World) :
    Calls Tryz.prog 48 #[.slice none 0 0, .int .i64 k] w fun e w' => e = .returned (.int .i64 (k : Int)) ∧ w' = w := by
  go_enter Tryz.func48, Tryz.ntmps48
  go_wp2
  go_loopw [1, 5] (fun kv i wr => kv = .int .i64 (k : Int) ∧ i = .int .i64 0 ∧ wr = w) (fun _ i _ => 0)
  case atStart => exact ⟨rfl, rfl, rfl⟩
  case round =>
    obtain ⟨rfl, rfl, rfl⟩ := hrel
    go_wp2
    go_ret
    exact ⟨rfl, rfl⟩
theorem markInts_nil (k : Nat) (w : World) :
    Calls Tryz.prog 47 #[.slice none 0 0, .int .i64 k] w fun e w' => e = .returned (.int .i64 (k : Int)) ∧ w' = w := by
  go_enter Tryz.func47, Tryz.ntmps47
  go_wp2
  go_loopw [1, 5] (fun kv i wr => kv = .int .i64 (k : Int) ∧ i = .int .i64 0 ∧ wr = w) (fun _ i _ => 0)
  case atStart => exact ⟨rfl, rfl, rfl⟩
  case round =>
    obtain ⟨rfl, rfl, rfl⟩ := hrel
    go_wp2
    go_ret
    exact ⟨rfl, rfl⟩
theorem heldInts_nil (k : Nat) (w : World) :
    Calls Tryz.prog 49 #[.slice none 0 0, .int .i64 k] w fun e w' => e = .returned (.int .i64 (k : Int)) ∧ w' = w := by
  go_enter Tryz.func49, Tryz.ntmps49
  go_wp2
  go_loopw [1, 5] (fun kv i wr => kv = .int .i64 (k : Int) ∧ i = .int .i64 0 ∧ wr = w) (fun _ i _ => 0)
  case atStart => exact ⟨rfl, rfl, rfl⟩
  case round =>
    obtain ⟨rfl, rfl, rfl⟩ := hrel
    go_wp2
    go_ret
    exact ⟨rfl, rfl⟩
theorem markTree_nil (q : Int) (k : Nat) (w : World) :
    Calls Tryz.prog 15 #[.agg #[.int .i64 q, .slice none 0 0, .slice none 0 0, .slice none 0 0], .int .i64 k] w fun e w' => e = .returned (.int .i64 (k : Int)) ∧ Below w.heap.size w w' := by
  obtain ⟨Y, hY⟩ : ∃ Y, Y = w.heap.size := ⟨_, rfl⟩
  obtain ⟨W, hW⟩ : ∃ W, W = w.alloc (.cells #[.int .i64 q, .slice none 0 0, .slice none 0 0, .slice none 0 0] 31) := ⟨_, rfl⟩
  have kW : Below w.heap.size w W := by rw [hW]; exact (Below.refl _ _).alloc (Nat.le_refl _) _
  have x2 : W.cell? ⟨Y, 2, none⟩ = some (.slice none 0 0) := by rw [hW, hY]; simp
  have x3 : W.cell? ⟨Y, 3, none⟩ = some (.slice none 0 0) := by rw [hW, hY]; simp
  have K0 : Hid (Below w.heap.size w W) := kW
  have z1 := World.block_lt_of_cell? _ _ x2
  simp only at z1
  clear kW
  go_enter Tryz.func15, Tryz.ntmps15
  go_wp2_with fail
  rw [← hW]
  try rw [← hY]
  clear hW hY
  refine (markE_nil k W).mono ?_
  rintro e w1 ⟨rfl, rfl⟩
  go_wp2_with fail
  refine (markLevs_nil k _).mono ?_
  rintro e w1 ⟨rfl, rfl⟩
  go_wp2_with fail
  refine (markInts_nil k _).mono ?_
  rintro e w1 ⟨rfl, rfl⟩
  go_wp2
  go_ret
  exact ⟨rfl, K0.out⟩
theorem heldTree_nil (q : Int) (k : Nat) (w : World) :
    Calls Tryz.prog 16 #[.agg #[.int .i64 q, .slice none 0 0, .slice none 0 0, .slice none 0 0], .int .i64 k] w fun e w' => e = .returned (.int .i64 (k : Int)) ∧ Below w.heap.size w w' := by
  obtain ⟨Y, hY⟩ : ∃ Y, Y = w.heap.size := ⟨_, rfl⟩
  obtain ⟨W, hW⟩ : ∃ W, W = w.alloc (.cells #[.int .i64 q, .slice none 0 0, .slice none 0 0, .slice none 0 0] 31) := ⟨_, rfl⟩
  have kW : Below w.heap.size w W := by rw [hW]; exact (Below.refl _ _).alloc (Nat.le_refl _) _
  have x2 : W.cell? ⟨Y, 2, none⟩ = some (.slice none 0 0) := by rw [hW, hY]; simp
  have x3 : W.cell? ⟨Y, 3, none⟩ = some (.slice none 0 0) := by rw [hW, hY]; simp
  have K0 : Hid (Below w.heap.size w W) := kW
  have z1 := World.block_lt_of_cell? _ _ x2
  simp only at z1
  have hk : ¬ (k : Int) < 0 := by omega
  clear kW
  go_enter Tryz.func16, Tryz.ntmps16
  go_wp2_with fail
  rw [← hW]
  try rw [← hY]
  clear hW hY
  refine (heldE_nil k W).mono ?_
  rintro e w1 ⟨rfl, rfl⟩
  go_wp2_with fail
  refine (heldLevs_nil k _).mono ?_
  rintro e w1 ⟨rfl, rfl⟩
  go_wp2_with fail
  refine (heldInts_nil k _).mono ?_
  rintro e w1 ⟨rfl, rfl⟩
  go_wp2
  go_ret
  exact ⟨rfl, K0.out⟩
def Fits (M : List EntD) (V : List (List RunD)) (S : List Int) : Prop := M.length ≤ 1048576 ∧ V.length ≤ 1048576 ∧ (∀ B ∈ V, B.length ≤ 1048576 ∧ ∀ p ∈ B, p.1.length ≤ 1048576) ∧ S.length ≤ 1048576 ∧ 1 + 5 * M.length + mkV V + S.length ≤ 1000000000
theorem fits_nil : Fits [] [] [] := ⟨by simp, by simp, (fun B hB => by cases hB), by simp, by simp [mkV]⟩
theorem fits_sum {M : List EntD} {V : List (List RunD)} {S : List Int} (h : M.length + (szV V + V.length) + S.length ≤ 1048576) : Fits M V S := by
  have h4 := mkV_sz V
  refine ⟨by omega, by omega, fun B hB => ?_, by omega, by omega⟩
  have h1 := szV_mem hB
  refine ⟨by omega, fun p hp => ?_⟩
  have h2 := szL_mem hp
  omega
theorem markRes (q : Int) (lo hi nm nv ns : Nat) (am av ak : Option Addr) (M : List EntD) (V : List (List RunD)) (S : List Int) (gs bs : Nat → Nat) (es : Nat → Nat → Nat) (w : World) (hT : ResT lo hi w am nm av nv ak ns M V S gs bs es) (hhi : hi ≤ w.heap.size) (hf : Fits M V S) :
    Calls Tryz.prog 15 #[.agg #[.int .i64 q, .slice am nm nm, .slice av nv nv, .slice ak ns ns], .int .i64 1] w fun e w' => e = .returned (.int .i64 ((1 + 5 * nm + mkV V + ns : Nat) : Int)) ∧ ResT lo hi w' am nm av nv ak ns (markL 1 nm) (mrkV (1 + 5 * nm) V) (mrkS (1 + 5 * nm + mkV V) ns) gs bs es ∧ KeepO lo hi w w' := by
  have hl := hT.lens
  rcases hT with ⟨b1, b2, b3, rfl, rfl, rfl, h4⟩ | ⟨rfl, rfl, rfl, rfl, rfl, rfl, rfl, rfl, rfl⟩
  · obtain ⟨f1, f2, f3, f4, f5⟩ := hf
    refine (markTree_o q lo hi b1 nm b2 nv b3 ns 1 M V S gs bs es w h4 hhi (by omega) (by omega) f3 (by omega) (by omega) (by omega)).mono ?_
    rintro e w' ⟨rfl, h1, h2⟩
    exact ⟨rfl, .inl ⟨b1, b2, b3, rfl, rfl, rfl, h1⟩, h2⟩
  · refine (markTree_nil q 1 w).mono ?_
    rintro e w' ⟨rfl, h1⟩
    exact ⟨by simp [mkV], .inr ⟨rfl, rfl, rfl, rfl, rfl, rfl, by simp [markL], by simp [mrkV], by simp [mrkS]⟩, KeepO.of_below h1⟩
theorem heldRes (q : Int) (lo hi nm nv ns : Nat) (am av ak : Option Addr) (V : List (List RunD)) (gs bs : Nat → Nat) (es : Nat → Nat → Nat) (w : World) (hT : ResT lo hi w am nm av nv ak ns (markL 1 nm) (mrkV (1 + 5 * nm) V) (mrkS (1 + 5 * nm + mkV V) ns) gs bs es) (M : List EntD) (S : List Int) (hm : M.length = nm) (hs : S.length = ns) (hf : Fits M V S) :
    Calls Tryz.prog 16 #[.agg #[.int .i64 q, .slice am nm nm, .slice av nv nv, .slice ak ns ns], .int .i64 1] w fun e w' => e = .returned (.int .i64 ((1 + 5 * nm + mkV V + ns : Nat) : Int)) ∧ Below w.heap.size w w' := by
  have hl := hT.lens
  rcases hT with ⟨b1, b2, b3, rfl, rfl, rfl, h4⟩ | ⟨rfl, rfl, rfl, rfl, rfl, rfl, h5, h6, h7⟩
  · obtain ⟨f1, f2, f3, f4, f5⟩ := hf
    have hv := hl.2.1
    rw [mrkV_len] at hv
    exact heldTree_o q lo hi b1 nm b2 nv b3 ns 1 V gs bs es w h4 (by omega) (by omega) f3 (by omega) (by omega) (by omega)
  · have hv : V = [] := by
      have h8 := congrArg List.length h6
      rw [mrkV_len] at h8
      exact List.length_eq_zero_iff.1 h8
    subst hv
    refine (heldTree_nil q 1 w).mono ?_
    rintro e w' ⟨rfl, h1⟩
    exact ⟨by simp [mkV], h1⟩
def DocR (q : Int) (M : List EntD) (V : List (List RunD)) (S : List Int) (ok : Bool) (w : World) (e : Ending) (w' : World) : Prop :=
  ∃ am nm cm av nv cv ak ns cs, e = .returned (.tuple #[.agg #[.int .i64 q, .slice am nm cm, .slice av nv cv, .slice ak ns cs], .bool ok]) ∧ TreeIn 0 w' am nm cm av nv cv ak ns cs M V S ∧ Below w.heap.size w w'
def ImpR (q : Int) (M : List EntD) (V : List (List RunD)) (S : List Int) (ok : Bool) (w : World) (e : Ending) (w' : World) : Prop :=
  ∃ am nm av nv ak ns gs bs es, e = .returned (.tuple #[.agg #[.int .i64 q, .slice am nm nm, .slice av nv nv, .slice ak ns ns], .bool ok]) ∧ ResT w.heap.size w'.heap.size w' am nm av nv ak ns M V S gs bs es ∧ Below w.heap.size w w'
structure At4 (w : World) (b : Nat) (u0 u1 u2 u3 : Value) : Prop where
  c0 : w.cell? ⟨b, 0, none⟩ = some u0
  c1 : w.cell? ⟨b, 1, none⟩ = some u1
  c2 : w.cell? ⟨b, 2, none⟩ = some u2
  c3 : w.cell? ⟨b, 3, none⟩ = some u3
theorem At4.lt {w : World} {b : Nat} {u0 u1 u2 u3 : Value} (h : At4 w b u0 u1 u2 u3) : b < w.heap.size := World.block_lt_of_cell? w _ h.c0
theorem At4.new (w : World) (t : TypeId) (u0 u1 u2 u3 : Value) : At4 (w.alloc (.cells #[u0, u1, u2, u3] t)) w.heap.size u0 u1 u2 u3 := ⟨by simp, by simp, by simp, by simp⟩
theorem At4.keep {w w' : World} {b : Nat} {u0 u1 u2 u3 : Value} (h : At4 w b u0 u1 u2 u3) (hb : Below w.heap.size w w') : At4 w' b u0 u1 u2 u3 := ⟨cell_later hb h.c0, cell_later hb h.c1, cell_later hb h.c2, cell_later hb h.c3⟩
theorem At4.keepO {lo hi : Nat} {w w' : World} {b : Nat} {u0 u1 u2 u3 : Value} (h : At4 w b u0 u1 u2 u3) (k : KeepO lo hi w w') (hb : b < lo ∨ hi ≤ b) : At4 w' b u0 u1 u2 u3 := ⟨keep_cell k hb h.c0, keep_cell k hb h.c1, keep_cell k hb h.c2, keep_cell k hb h.c3⟩
structure LawSt (w6 wi : World) (Y : Nat) (y0 y1 y2 y3 : Value) (G : Nat) (g0 : Value) (lo hi : Nat) (am : Option Addr) (nm : Nat) (av : Option Addr) (nv : Nat) (ak : Option Addr) (ns : Nat) (M : List EntD) (V : List (List RunD)) (S : List Int) (gs bs : Nat → Nat) (es : Nat → Nat → Nat) : Prop where
  low : Below w6.heap.size w6 wi
  hy : At4 wi Y y0 y1 y2 y3
  hg : At4 wi G g0 (.slice am nm nm) (.slice av nv nv) (.slice ak ns ns)
  res : ResT lo hi wi am nm av nv ak ns M V S gs bs es
theorem LawSt.below {w6 wi wj : World} {Y G lo hi nm nv ns : Nat} {y0 y1 y2 y3 g0 : Value} {am av ak : Option Addr} {M : List EntD} {V : List (List RunD)} {S : List Int} {gs bs : Nat → Nat} {es : Nat → Nat → Nat} (h : LawSt w6 wi Y y0 y1 y2 y3 G g0 lo hi am nm av nv ak ns M V S gs bs es) (hb : Below wi.heap.size wi wj) : LawSt w6 wj Y y0 y1 y2 y3 G g0 lo hi am nm av nv ak ns M V S gs bs es :=
  ⟨h.low.trans (hb.mono h.low.size), h.hy.keep hb, h.hg.keep hb, h.res.below hb⟩
theorem LawSt.markX {w6 wi wj : World} {Y G lo hi a b nm nv ns : Nat} {y0 y1 y2 y3 g0 : Value} {am av ak : Option Addr} {M : List EntD} {V : List (List RunD)} {S : List Int} {gs bs : Nat → Nat} {es : Nat → Nat → Nat} (h : LawSt w6 wi Y y0 y1 y2 y3 G g0 lo hi am nm av nv ak ns M V S gs bs es) (hk : MarkT a b wi wj) (ha : w6.heap.size ≤ a) (hY : b ≤ Y) (hl : b ≤ lo) (hG : b ≤ G) : LawSt w6 wj Y y0 y1 y2 y3 G g0 lo hi am nm av nv ak ns M V S gs bs es :=
  ⟨h.low.trans (hk.below ha h.low.size), h.hy.keepO (KeepO.of_mark hk) (.inr hY), h.hg.keepO (KeepO.of_mark hk) (.inr hG), h.res.keepO (KeepO.of_mark hk) hl⟩
theorem LawSt.markG {w6 wi wj : World} {Y G lo hi nm nv ns : Nat} {y0 y1 y2 y3 g0 : Value} {am av ak : Option Addr} {M M' : List EntD} {V V' : List (List RunD)} {S S' : List Int} {gs bs : Nat → Nat} {es : Nat → Nat → Nat} (h : LawSt w6 wi Y y0 y1 y2 y3 G g0 lo hi am nm av nv ak ns M V S gs bs es) (hk : KeepO lo hi wi wj) (hr : ResT lo hi wj am nm av nv ak ns M' V' S' gs bs es) (ha : w6.heap.size ≤ lo) (hY : Y < lo) (hG : hi ≤ G) : LawSt w6 wj Y y0 y1 y2 y3 G g0 lo hi am nm av nv ak ns M' V' S' gs bs es :=
  ⟨h.low.trans (hk.below ha h.low.size), h.hy.keepO hk (.inl hY), h.hg.keepO hk (.inr hG), hr⟩
def SumOk (M : List EntD) (V : List (List RunD)) (S : List Int) : Prop := M.length + (szV V + V.length) + S.length ≤ 1048576 ∧ (∀ e ∈ M, SmT e) ∧ ∀ B ∈ V, SmB B
end Go.Proofs.YtlmgojlffgkciaaGreat

namespace Go.Proofs.YtlmgojlffgkciaaGreat
open Go.RowKit Go.Shelf
structure KeepS (K : Nat → Prop) (w w' : World) : Prop where
  os : w'.os = w.os
  tape : w'.tape = w.tape
  output : w'.output = w.output
  size : w.heap.size ≤ w'.heap.size
  block : ∀ k, K k → w'.heap[k]? = w.heap[k]?
theorem KeepS.of {K : Nat → Prop} {n₀ : Nat} {w w' : World} (h : Below n₀ w w') (hK : ∀ k, K k → k < n₀) : KeepS K w w' := ⟨h.os, h.tape, h.output, h.size, fun k hk => h.block k (hK k hk)⟩
theorem KeepS.refl (K : Nat → Prop) (w : World) : KeepS K w w := ⟨rfl, rfl, rfl, Nat.le_refl _, fun _ _ => rfl⟩
theorem KeepS.trans {K : Nat → Prop} {a b c : World} (h : KeepS K a b) (k : KeepS K b c) : KeepS K a c :=
  ⟨k.os.trans h.os, k.tape.trans h.tape, k.output.trans h.output, Nat.le_trans h.size k.size, fun i hi => (k.block i hi).trans (h.block i hi)⟩
theorem KeepS.cell {K : Nat → Prop} {w w' : World} (h : KeepS K w w') {p : Addr} (hp : K p.block) : w'.cell? p = w.cell? p := World.cell?_of_block (w := w) (h.block p.block hp)
theorem KeepS.grown {K : Nat → Prop} {w w' : World} {row : Option Nat} (hg : w.grownBy w' row) (hK : ∀ k, K k → k < w.heap.size ∧ some k ≠ row) : KeepS K w w' := ⟨hg.os, hg.tape, hg.output, hg.size, fun k hk => hg.block k (hK k hk).1 (hK k hk).2⟩
theorem keepS_b {K : Nat → Prop} {w : World} (hK : ∀ k, K k → k < w.heap.size) (W : World) (l : Nat) (o o' : Obj) (hl : w.heap.size ≤ l) (h : W.heap[l]? = some o) (hc : o.isCells = false) (hw : o.isWalk = false) : KeepS K W (W.putObj l o') :=
  KeepS.of (belowK_b (n₀ := w.heap.size) (w := w) (Nat.le_refl _) W l o o' hl h hc hw) hK
theorem EntsAt.keepS {K : Nat → Prop} {w w' : World} {a : Option Addr} {len cap : Nat} {L : List EntD} (h : EntsAt w a len cap L) (hk : KeepS K w w') (hK : ∀ x, a = some x → 0 < len → K x.block) : EntsAt w' a len cap L :=
  h.moved hk.size (fun x e hp o => hk.cell (p := ⟨x.block, o, none⟩) (hK x e hp))
end Go.Proofs.YtlmgojlffgkciaaGreat

namespace Go.Proofs.YtlmgojlffgkciaaGreat
set_option maxRecDepth 100000
set_option maxHeartbeats 2000000
open Go.RowKit Go.Shelf
attribute [local go_sem] Oper.semAt_some
def downTo (n k : Nat) : List (Fin n) := ((List.finRange n).drop k).reverse
theorem down_all (n : Nat) : downTo n n = [] := by simp [downTo]
theorem down_step {n k : Nat} (h : k < n) : downTo n k = downTo n (k + 1) ++ [⟨k, h⟩] := by
  unfold downTo
  rw [List.drop_eq_getElem_cons (by simpa using h)]
  simp
theorem down_pre (n k : Nat) : downTo n k <+: downTo n 0 := by
  unfold downTo
  rw [List.drop_zero]
  exact List.reverse_prefix.2 (List.drop_suffix _ _)
theorem down_len (n k : Nat) : (downTo n k).length = n - k := by simp [downTo]
def LieE (K : Nat → Prop) (w : World) (a : Option Addr) (len : Nat) (u0 u1 u2 u3 u4 : Nat → Value) : Prop := ∀ b o, a = some ⟨b, o, none⟩ → 1 ≤ len → K b ∧ ∀ i, i < len → w.cell? ⟨b, o + i * 5, none⟩ = some (u0 i) ∧ w.cell? ⟨b, o + i * 5 + 1, none⟩ = some (u1 i) ∧ w.cell? ⟨b, o + i * 5 + 2, none⟩ = some (u2 i) ∧ w.cell? ⟨b, o + i * 5 + 3, none⟩ = some (u3 i) ∧ w.cell? ⟨b, o + i * 5 + 4, none⟩ = some (u4 i)
theorem backE1_in (n l Bp : Nat) (K : Nat → Prop) (hn : 1 ≤ n) (a : Option Addr) (len cap : Nat) (u0 u1 u2 u3 u4 : Nat → Value) (J Jx : List (Fin len) → World → Prop) (W : World)
    (hY : ∀ pre (x : Fin len) W1, J pre W1 → pre.length < len → YieldAt Fence.wide (n - 1) Tryz.prog l #[.int .i64 (x.1 : Nat), .agg #[u0 x.1, u1 x.1, u2 x.1, u3 x.1, u4 x.1]] W1 fun e W' =>
      (e = .returned (.bool true) ∧ J (pre ++ [x]) W' ∧ KeepS K W1 W') ∨ (e = .returned (.bool false) ∧ Jx (pre ++ [x]) W'))
    (hKB : K Bp) (hp0 : W.cell? ⟨Bp, 0, none⟩ = some (.slice a len cap)) (hs : 1 ≤ len → ∃ b o, a = some ⟨b, o, none⟩) (hroom : len ≤ cap) (hbig : cap ≤ maxLen) (hKs : ∀ k, K k → k < W.heap.size)
    (hV : LieE K W a len u0 u1 u2 u3 u4) (h0 : J [] W) :
    CallsIn Fence.wide n Tryz.prog 190 #[.func (.yield l) #[] #[], .pointer (some ⟨Bp, 0, none⟩)] W fun e W' => (∃ v, e = .returned v) ∧
      ((∃ ys, ys = downTo len 0 ∧ J ys W') ∨ (∃ pre, pre <+: downTo len 0 ∧ Jx pre W')) := by
  unfold maxLen at hbig
  have HKS : Hid (∀ k, K k → k < W.heap.size) := hKs
  clear hKs
  refine callsIn_of_wp Tryz.func190 rfl trivial ?_ rfl
  simp only [Tryz.ntmps190, List.size_toArray, List.length_cons, List.length_nil, Nat.reduceAdd, Nat.reduceSub, Array.replicate_succ, Array.replicate_zero, List.push_toArray, List.append_toArray, List.nil_append, List.cons_append]
  have wl : IntKind.i64.wrap ((len : Int) - 1) = (len : Int) - 1 := by rw [IntWalk.i64_left]; unfold wrap64; omega
  gi_wp2
  gi_loopw [3] (fun iv wr => ∃ k : Nat, k ≤ len ∧ iv = .int .i64 ((k : Int) - 1) ∧ J (downTo len k) wr ∧ KeepS K W wr) (fun iv _ => (intOf iv + 1).toNat)
  case atStart => exact ⟨len, Nat.le_refl _, rfl, by rw [down_all]; exact h0, KeepS.refl _ _⟩
  case round =>
    obtain ⟨k, hk, rfl, hJs, hb⟩ := hrel
    have HB : Hid (KeepS K W wr) := hb
    have hcc := (hb.cell (p := ⟨Bp, 0, none⟩) hKB).trans hp0
    have hszw := hb.size
    have hBw : Bp < wr.heap.size := Nat.lt_of_lt_of_le (HKS.out Bp hKB) hszw
    cases k with
    | zero =>
      gi_wp2
      go_end0
      exact ⟨⟨_, rfl⟩, .inl ⟨_, rfl, hJs⟩⟩
    | succ j =>
      have hj : ((j + 1 : Nat) : Int) - 1 = (j : Int) := by omega
      rw [hj]
      have hjI : (j : Int) < (len : Int) := by omega
      have hjN : j < len := by omega
      have hj0 : (0 : Int) ≤ (j : Int) := by omega
      have wj : IntKind.i64.wrap ((j : Int) - 1) = (j : Int) - 1 := by rw [IntWalk.i64_left]; unfold wrap64; omega
      obtain ⟨b, o, rfl⟩ := hs (by omega)
      obtain ⟨hKb, hVe⟩ := hV b o rfl (by omega)
      have hbW : b < wr.heap.size := Nat.lt_of_lt_of_le (HKS.out b hKb) hszw
      obtain ⟨g0, g1, g2, g3, g4⟩ := hVe j hjN
      have c0 := (HB.out.cell (p := ⟨b, o + j * 5, none⟩) hKb).trans g0
      have c1 := (HB.out.cell (p := ⟨b, o + j * 5 + 1, none⟩) hKb).trans g1
      have c2 := (HB.out.cell (p := ⟨b, o + j * 5 + 2, none⟩) hKb).trans g2
      have c3 := (HB.out.cell (p := ⟨b, o + j * 5 + 3, none⟩) hKb).trans g3
      have c4 := (HB.out.cell (p := ⟨b, o + j * 5 + 4, none⟩) hKb).trans g4
      clear g0 g1 g2 g3 g4
      obtain ⟨fn, tmps, assign, body, hy, hR⟩ := hY _ ⟨j, hjN⟩ _ hJs (by rw [down_len]; omega)
      simp only at hy
      clear hb hV hVe
      gi_wp2
      refine hR.mono ?_
      rintro e W3 (⟨rfl, hJ3, hk3⟩ | ⟨rfl, hJx3⟩)
      · gi_wp2
        go_roundw
        case rel => exact ⟨j, by omega, by go_num, by rw [down_step hjN]; exact hJ3, HB.out.trans hk3⟩
        case measure => simp [intOf]
      · gi_wp2
        refine bodyPost_ret (results_none rfl _ _ _) rfl ?_
        exact ⟨⟨_, rfl⟩, .inr ⟨_, by rw [← down_step hjN]; exact down_pre _ _, hJx3⟩⟩
theorem backE_in (n : Nat) (a : Option Addr) (len cap : Nat) (w : World) :
    CallsIn Fence.wide n Tryz.prog 149 #[.slice a len cap] w fun e w' => e = .returned (.func (.func 190) #[] #[.pointer (some ⟨w.heap.size, 0, none⟩)]) ∧
      w' = w.alloc (.cells #[.slice a len cap] 28) := by
  refine callsIn_of_wp Tryz.func149 rfl trivial ?_ rfl
  simp only [Tryz.ntmps149, List.size_toArray, List.length_cons, List.length_nil, Nat.reduceAdd, Nat.reduceSub, Array.replicate_succ, Array.replicate_zero, List.push_toArray, List.append_toArray, List.nil_append, List.cons_append]
  gi_wp2
  go_ret
  exact ⟨rfl, rfl⟩
theorem backE_stops (n : Nat) (hn : 1 ≤ n) (Bp : Nat) (K : Nat → Prop) (a : Option Addr) (len cap : Nat) (u0 u1 u2 u3 u4 : Nat → Value) (w : World)
    (hKB : K Bp) (hp0 : w.cell? ⟨Bp, 0, none⟩ = some (.slice a len cap)) (hs : 1 ≤ len → ∃ b o, a = some ⟨b, o, none⟩) (hroom : len ≤ cap) (hbig : cap ≤ maxLen) (hKs : ∀ k, K k → k < w.heap.size)
    (hV : LieE K w a len u0 u1 u2 u3 u4) :
    SeqStopsK Fence.wide n Tryz.prog 190 #[.pointer (some ⟨Bp, 0, none⟩)] (fun x : Fin len => #[Value.int .i64 (x.1 : Nat), .agg #[u0 x.1, u1 x.1, u2 x.1, u3 x.1, u4 x.1]]) (KeepS K) (fun ys => ys = downTo len 0) (fun pre => pre <+: downTo len 0) len w :=
  fun l J Jx W hW _ _ hY h0 => backE1_in n l Bp K hn a len cap u0 u1 u2 u3 u4 J Jx W hY hKB (cell_later hW hp0) hs hroom hbig (fun k hk => Nat.lt_of_lt_of_le (hKs k hk) hW.size) (fun b o e h1 => ⟨(hV b o e h1).1, fun i hi => by obtain ⟨g0, g1, g2, g3, g4⟩ := (hV b o e h1).2 i hi; exact ⟨cell_later hW g0, cell_later hW g1, cell_later hW g2, cell_later hW g3, cell_later hW g4⟩⟩) h0
end Go.Proofs.YtlmgojlffgkciaaGreat
