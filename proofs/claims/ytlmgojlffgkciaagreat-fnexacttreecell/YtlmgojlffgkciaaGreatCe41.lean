/-
  The laws' size of a list of entries: with the sum, and what it says of the texts; by a walk of its Go text.
  The laws' size of runs, levels, trees: with the sum, and what it says of the texts; by walks of their Go text.
  A tree that was answered: in memory of a call's own, or the tree of nothing; the laws' marks on it, and the marks found again; by walks of their Go text.
  Plain: what all entries of a tree are, sorted; no statement of the program stands here.
  The program's turned at any function that does something to a tree: what it answers at a right tree, by a walk of its Go text.
  The rows of the levels of a copy are there, each in a block.
-/
import Derived.Test.YtlmgojlffgkciaaGreatCe12
import Derived.Test.YtlmgojlffgkciaaGreatCe23
import Derived.Test.YtlmgojlffgkciaaGreatCe39
import Derived.Laws.IdiomCopy
import Derived.Deep.LoopGhost
import Derived.Deep.DeepCutAuto
import Derived.Laws.CopyOwn
import Derived.Deep.RegionWith
import Derived.Lib.SlBytesRow
import Derived.WalkKit
import Derived.WalkSpells
import Derived.WalkLawsBesides
import Derived.Test.YtlmgojlffgkciaaGreatCe24
import Derived.Test.YtlmgojlffgkciaaGreatCe35
import Derived.Test.YtlmgojlffgkciaaGreatCe05
import Derived.Test.YtlmgojlffgkciaaGreatCe25
import Derived.Test.YtlmgojlffgkciaaGreatCe21
import Derived.Test.YtlmgojlffgkciaaGreatProg
import Derived.Test.YtlmgojlffgkciaaGreatCe00
import Derived.Test.YtlmgojlffgkciaaGreatCe01
import Derived.Test.YtlmgojlffgkciaaGreatCe34
import Derived.Test.YtlmgojlffgkciaaGreatCe40
import Derived.Test.YtlmgojlffgkciaaGreatCe18
import Derived.Test.YtlmgojlffgkciaaGreatCe28
import Derived.Test.YtlmgojlffgkciaaGreatCe26
namespace Go.Proofs.YtlmgojlffgkciaaGreat
open Go.RowKit
def SmT (e : EntD) : Prop := e.1.size ≤ 281474976710656 ∧ e.2.2.2.1.size ≤ 281474976710656
set_option maxHeartbeats 400000 in
theorem szEntS_sum (a : Option Addr) (len cap : Nat) (L : List EntD) (left : Int) (w : World) (hL : EntsAt w a len cap L) (h0 : 0 ≤ left) (h1 : left ≤ 1048576) :
    Calls Tryz.prog 22 #[.slice a len cap, .int .i64 left] w fun e w' => ∃ r : Int, e = .returned (.int .i64 r) ∧ (r = -1 ∨ (0 ≤ r ∧ r + L.length ≤ left ∧ ∀ e ∈ L, SmT e)) ∧ Below w.heap.size w w' := by
  have hbl := hL.room
  have hbc := hL.big
  unfold maxLen at hbc
  have HL : Hid (EntsAt w a len cap L) := hL
  have HLN : Hid (L.length = len) := hL.length
  clear hL
  by_cases hb : left < len
  · go_enter Tryz.func22, Tryz.ntmps22
    go_wp2
    go_ret
    exact ⟨-1, rfl, Or.inl rfl, Below.refl _ _⟩
  · go_enter Tryz.func22, Tryz.ntmps22
    go_wp2
    go_loopw [1, 5] (fun l i wr => ∃ (k : Nat) (r : Int), k ≤ len ∧ i = .int .i64 k ∧ l = .int .i64 r ∧ 0 ≤ r ∧ r + len ≤ left ∧ (∀ (j : Nat) (e : EntD), j < k → L[j]? = some e → SmT e) ∧ Below w.heap.size w wr) (fun _ i _ => len - (intOf i).toNat)
    case atStart => exact ⟨0, left - len, Nat.zero_le _, rfl, rfl, by omega, by omega, fun j e hj => absurd hj (Nat.not_lt_zero j), Below.refl _ _⟩
    case round =>
      obtain ⟨k, r, hk, rfl, rfl, hr0, hr1, htx, hbw⟩ := hrel
      have HT : Hid (∀ (j : Nat) (e : EntD), j < k → L[j]? = some e → SmT e) := htx
      clear htx
      by_cases hlt : k < len
      · obtain ⟨b, off, rfl, hbb⟩ := HL.out.form (by omega)
        obtain ⟨s, q, d, t, n, hg, hlw, g0, g1, g2, g3, g4⟩ := HL.out.ent hbw hbb k hlt
        have hs := hlw.1
        have ht := hlw.2.2.2.1
        simp only at hs ht
        have HG : Hid (L[k]? = some (s, q, d, t, n)) := hg
        clear hg hlw
        by_cases hsz : r < s.size + t.size
        · go_wp2_with (go_at_call 55; refine (szEnt_no _ _ _ _ _ _ _ hs ht hr0 (by omega) hsz).mono ?_; rintro e w1 ⟨rfl, hb1⟩)
          go_ret
          exact ⟨-1, rfl, Or.inl rfl, hbw.trans (hb1.mono hbw.size)⟩
        · go_wp2_with (go_at_call 55; refine (szEnt_yes _ _ _ _ _ _ _ (by omega) (by omega)).mono ?_; rintro e w1 ⟨rfl, hb1⟩)
          go_roundw
          case rel =>
            refine ⟨k + 1, r - s.size - t.size, by omega, by go_num, rfl, by omega, by omega, fun j e hj he => ?_, hbw.trans (hb1.mono hbw.size)⟩
            by_cases hjk : j = k
            · have := HG.out; rw [hjk, this] at he; cases he; exact ⟨by show s.size ≤ _; omega, by show t.size ≤ _; omega⟩
            · exact HT.out j e (by omega) he
          case measure => simp [intOf]; omega
      · go_wp2
        go_ret
        refine ⟨r, rfl, Or.inr ⟨hr0, by rw [HLN.out]; exact hr1, fun e he => ?_⟩, hbw⟩
        obtain ⟨j, hj, rfl⟩ := List.getElem_of_mem he
        exact HT.out j _ (by have := HLN.out; omega) (List.getElem?_eq_getElem hj)
end Go.Proofs.YtlmgojlffgkciaaGreat

namespace Go.Proofs.YtlmgojlffgkciaaGreat
open Go.RowKit
def szL (B : List RunD) : Nat := (B.map fun p => p.1.length).sum
def szV (V : List (List RunD)) : Nat := (V.map fun B => szL B + B.length).sum
def SmB (B : List RunD) : Prop := ∀ p ∈ B, ∀ e ∈ p.1, SmT e
theorem szL_take {B : List RunD} {k : Nat} {p : RunD} (h : B[k]? = some p) : szL (B.take (k + 1)) = szL (B.take k) + p.1.length := by
  rw [List.take_add_one, h]
  simp [szL]
theorem szV_take {V : List (List RunD)} {k : Nat} {B : List RunD} (h : V[k]? = some B) : szV (V.take (k + 1)) = szV (V.take k) + (szL B + B.length) := by
  rw [List.take_add_one, h]
  simp [szV]
theorem mem_take_snoc {α : Type} {L : List α} {k : Nat} {x y : α} (h : L[k]? = some x) (hy : y ∈ L.take (k + 1)) : y ∈ L.take k ∨ y = x := by
  rw [List.take_add_one, h] at hy
  simpa using hy
theorem szL_mem {B : List RunD} {p : RunD} (h : p ∈ B) : p.1.length ≤ szL B := by
  induction B with
  | nil => cases h
  | cons x B ih =>
    simp only [szL, List.map_cons, List.sum_cons] at ih ⊢
    rcases List.mem_cons.1 h with rfl | h
    · omega
    · have := ih h; omega
theorem szV_mem {V : List (List RunD)} {B : List RunD} (h : B ∈ V) : szL B + B.length ≤ szV V := by
  induction V with
  | nil => cases h
  | cons x V ih =>
    simp only [szV, List.map_cons, List.sum_cons] at ih ⊢
    rcases List.mem_cons.1 h with rfl | h
    · omega
    · have := ih h; omega
set_option maxHeartbeats 400000 in
theorem szRun_sum (m : Int) (a : Option Addr) (len cap : Nat) (L : List EntD) (left : Int) (w : World) (hL : EntsAt w a len cap L) (h0 : 0 ≤ left) (h1 : left ≤ 1048576) :
    Calls Tryz.prog 113 #[.agg #[.slice a len cap, .int .i64 m], .int .i64 left] w fun e w' => ∃ r : Int, e = .returned (.int .i64 r) ∧ (r = -1 ∨ (0 ≤ r ∧ r + L.length ≤ left ∧ ∀ e ∈ L, SmT e)) ∧ Below w.heap.size w w' := by
  have hL1 : EntsAt (w.alloc (.cells #[.slice a len cap, .int .i64 m] 144)) a len cap L := hL.keep ((Below.refl _ _).alloc (Nat.le_refl _) _)
  go_enter Tryz.func113, Tryz.ntmps113
  go_wp2_with (go_at_call 22; refine (szEntS_sum _ _ _ _ _ _ hL1 h0 h1).mono ?_; rintro e w1 ⟨r, rfl, hr, hb1⟩)
  · go_ret
    exact ⟨-1, rfl, Or.inl rfl, ((Below.refl _ _).alloc (Nat.le_refl _) _).trans (hb1.mono (by simp))⟩
  · go_ret
    exact ⟨r, rfl, hr, ((Below.refl _ _).alloc (Nat.le_refl _) _).trans (hb1.mono (by simp))⟩
set_option maxHeartbeats 800000 in
theorem szRunS_sum (lo : Nat) (a : Option Addr) (len cap : Nat) (B : List RunD) (left : Int) (w : World) (hP : RunsIn lo w a len cap B) (h0 : 0 ≤ left) (h1 : left ≤ 1048576) :
    Calls Tryz.prog 71 #[.slice a len cap, .int .i64 left] w fun e w' => ∃ r : Int, e = .returned (.int .i64 r) ∧ (r = -1 ∨ (0 ≤ r ∧ r + (szL B + B.length : Nat) ≤ left ∧ SmB B)) ∧ Below w.heap.size w w' := by
  have hbl := hP.room
  have hbc := hP.big
  unfold maxLen at hbc
  have HL : Hid (RunsIn lo w a len cap B) := hP
  have HLEN : Hid (B.length = len) := hP.length
  clear hP
  by_cases hb : left < len
  · go_enter Tryz.func71, Tryz.ntmps71
    go_wp2
    go_ret
    exact ⟨-1, rfl, Or.inl rfl, Below.refl _ _⟩
  · go_enter Tryz.func71, Tryz.ntmps71
    go_wp2
    go_loopw [1, 5] (fun l i wr => ∃ (k : Nat) (r : Int), k ≤ len ∧ i = .int .i64 k ∧ l = .int .i64 r ∧ 0 ≤ r ∧ r ≤ left ∧ r + szL (B.take k) + len ≤ left ∧ Below w.heap.size w wr ∧ ∀ p ∈ B.take k, ∀ e ∈ p.1, SmT e) (fun _ i _ => len - (intOf i).toNat)
    case atStart => exact ⟨0, left - len, Nat.zero_le _, rfl, rfl, by omega, by omega, by simp [szL], Below.refl _ _, fun p hp => by simp at hp⟩
    case round =>
      obtain ⟨k, r, hk, rfl, rfl, hr0, hr1, hrs, hbw, hall⟩ := hrel
      have HALL : Hid (∀ p ∈ B.take k, ∀ e ∈ p.1, SmT e) := hall
      have HRS : Hid (r + szL (B.take k) + len ≤ left) := hrs
      clear hall hrs
      by_cases hlt : k < len
      · obtain ⟨b, off, rfl, hbb⟩ := HL.out.form (by omega)
        obtain ⟨L, m, s, n, c, hg, _, g0, g1, hLk⟩ := HL.out.run hbw k hlt
        have HG : Hid (B[k]? = some (L, m)) := hg
        have hbk : b < wr.heap.size := Nat.lt_of_lt_of_le hbb hbw.size
        clear hg
        go_wp2_with (go_at_call 113; refine (szRun_sum _ _ _ _ L _ _ hLk.1 hr0 (by omega)).mono ?_; rintro e w1 ⟨r', rfl, hr', hb1⟩; rcases hr' with rfl | ⟨hr0', hr1', hln⟩)
        · go_ret
          exact ⟨-1, rfl, Or.inl rfl, hbw.trans (hb1.mono hbw.size)⟩
        · have HR1 : Hid (r' + L.length ≤ r) := hr1'
          have hrl : r' ≤ left := by omega
          have HLN : Hid (∀ e ∈ L, SmT e) := hln
          clear hr1' hln
          go_wp2
          go_roundw
          case rel =>
            refine ⟨k + 1, r', by omega, by go_num, rfl, hr0', hrl, ?_, hbw.trans (hb1.mono hbw.size), fun p hp => ?_⟩
            · have h1 := HR1.out
              have h2 := HRS.out
              have h3 := szL_take HG.out
              simp only at h3
              omega
            · rcases mem_take_snoc HG.out hp with h1 | rfl
              · exact HALL.out p h1
              · exact HLN.out
          case measure => simp [intOf]; omega
      · go_wp2
        go_ret
        have hkl : B.take k = B := List.take_of_length_le (by have := HLEN.out; omega)
        have h2 := HRS.out
        have h3 := HALL.out
        have h4 := HLEN.out
        rw [hkl] at h2 h3
        exact ⟨r, rfl, Or.inr ⟨hr0, by omega, h3⟩, hbw⟩
set_option maxHeartbeats 800000 in
theorem szRunSS_sum (lo : Nat) (a : Option Addr) (len cap : Nat) (V : List (List RunD)) (left : Int) (w : World) (hP : LevelsIn lo w a len cap V) (h0 : 0 ≤ left) (h1 : left ≤ 1048576) :
    Calls Tryz.prog 35 #[.slice a len cap, .int .i64 left] w fun e w' => ∃ r : Int, e = .returned (.int .i64 r) ∧ (r = -1 ∨ (0 ≤ r ∧ r + (szV V + V.length : Nat) ≤ left ∧ ∀ B ∈ V, SmB B)) ∧ Below w.heap.size w w' := by
  have hbl := hP.room
  have hbc := hP.big
  unfold maxLen at hbc
  have HL : Hid (LevelsIn lo w a len cap V) := hP
  have HLEN : Hid (V.length = len) := hP.length
  clear hP
  by_cases hb : left < len
  · go_enter Tryz.func35, Tryz.ntmps35
    go_wp2
    go_ret
    exact ⟨-1, rfl, Or.inl rfl, Below.refl _ _⟩
  · go_enter Tryz.func35, Tryz.ntmps35
    go_wp2
    go_loopw [1, 5] (fun l i wr => ∃ (k : Nat) (r : Int), k ≤ len ∧ i = .int .i64 k ∧ l = .int .i64 r ∧ 0 ≤ r ∧ r ≤ left ∧ r + szV (V.take k) + len ≤ left ∧ Below w.heap.size w wr ∧ ∀ p ∈ V.take k, SmB p) (fun _ i _ => len - (intOf i).toNat)
    case atStart => exact ⟨0, left - len, Nat.zero_le _, rfl, rfl, by omega, by omega, by simp [szV], Below.refl _ _, fun p hp => by simp at hp⟩
    case round =>
      obtain ⟨k, r, hk, rfl, rfl, hr0, hr1, hrs, hbw, hall⟩ := hrel
      have HALL : Hid (∀ p ∈ V.take k, SmB p) := hall
      have HRS : Hid (r + szV (V.take k) + len ≤ left) := hrs
      clear hall hrs
      by_cases hlt : k < len
      · obtain ⟨b, off, rfl, hbb⟩ := HL.out.form (by omega)
        obtain ⟨B, s, n, c, hg, g0, hLk⟩ := HL.out.level hbw k hlt
        have HG : Hid (V[k]? = some B) := hg
        have hbk : b < wr.heap.size := Nat.lt_of_lt_of_le hbb hbw.size
        clear hg
        go_wp2_with (go_at_call 71; refine (szRunS_sum lo _ _ _ B _ _ hLk hr0 (by omega)).mono ?_; rintro e w1 ⟨r', rfl, hr', hb1⟩; rcases hr' with rfl | ⟨hr0', hr1', hln⟩)
        · go_ret
          exact ⟨-1, rfl, Or.inl rfl, hbw.trans (hb1.mono hbw.size)⟩
        · have HR1 : Hid (r' + (szL B + B.length : Nat) ≤ r) := hr1'
          have hrl : r' ≤ left := by omega
          have HLN : Hid (SmB B) := hln
          clear hr1' hln
          go_wp2
          go_roundw
          case rel =>
            refine ⟨k + 1, r', by omega, by go_num, rfl, hr0', hrl, ?_, hbw.trans (hb1.mono hbw.size), fun p hp => ?_⟩
            · have h1 := HR1.out
              have h2 := HRS.out
              have h3 := szV_take HG.out
              omega
            · rcases mem_take_snoc HG.out hp with h1 | rfl
              · exact HALL.out p h1
              · exact HLN.out
          case measure => simp [intOf]; omega
      · go_wp2
        go_ret
        have hkl : V.take k = V := List.take_of_length_le (by have := HLEN.out; omega)
        have h2 := HRS.out
        have h3 := HALL.out
        have h4 := HLEN.out
        rw [hkl] at h2 h3
        exact ⟨r, rfl, Or.inr ⟨hr0, by omega, h3⟩, hbw⟩
set_option maxHeartbeats 800000 in
theorem szTree_sum (q : Int) (lo : Nat) (am av ak : Option Addr) (nm cm nv cv ns cs : Nat) (M : List EntD) (V : List (List RunD)) (S : List Int) (left : Int) (w : World) (h : TreeIn lo w am nm cm av nv cv ak ns cs M V S) (h0 : 0 ≤ left) (h1 : left ≤ 1048576) :
    Calls Tryz.prog 10 #[.agg #[.int .i64 q, .slice am nm cm, .slice av nv cv, .slice ak ns cs], .int .i64 left] w fun e w' => ∃ r : Int, e = .returned (.int .i64 r) ∧ (r = -1 ∨ (0 ≤ r ∧ r + (M.length + (szV V + V.length) + S.length : Nat) ≤ left ∧ (∀ e ∈ M, SmT e) ∧ ∀ B ∈ V, SmB B)) ∧ Below w.heap.size w w' := by
  obtain ⟨W, hW⟩ : ∃ W, W = w.alloc (.cells #[.int .i64 q, .slice am nm cm, .slice av nv cv, .slice ak ns cs] 26) := ⟨_, rfl⟩
  have hB : Below w.heap.size w W := by rw [hW]; exact (Below.refl _ _).alloc (Nat.le_refl _) _
  have x2 : W.cell? ⟨w.heap.size, 2, none⟩ = some (.slice av nv cv) := by rw [hW]; simp
  have x3 : W.cell? ⟨w.heap.size, 3, none⟩ = some (.slice ak ns cs) := by rw [hW]; simp
  have H1 : Hid (TreeIn lo W am nm cm av nv cv ak ns cs M V S) := h.keep hB
  have HB : Hid (Below w.heap.size w W) := hB
  clear h hB
  go_enter Tryz.func10, Tryz.ntmps10
  go_wp2_with fail
  rw [← hW]
  clear hW
  refine (szEntS_sum _ _ _ M _ _ H1.out.mem.1 h0 h1).mono ?_
  rintro e w1 ⟨r1, rfl, hr1, hb1⟩
  have x2 := cell_later hb1 x2
  have x3 := cell_later hb1 x3
  have z1 := World.block_lt_of_cell? _ _ x2
  simp only at z1
  have K1 : Hid (Below W.heap.size W w1) := hb1
  clear hb1
  rcases hr1 with rfl | ⟨a1, b1, c1⟩
  · go_wp2
    go_ret
    exact ⟨-1, rfl, Or.inl rfl, HB.out.trans (K1.out.mono HB.out.size)⟩
  have B1 : Hid (r1 + M.length ≤ left) := b1
  have C1 : Hid (∀ e ∈ M, SmT e) := c1
  have d1 : r1 ≤ left := by omega
  clear b1 c1
  go_wp2_with fail
  refine (szRunSS_sum lo _ _ _ V _ _ (H1.out.keep K1.out).levels a1 (by omega)).mono ?_
  rintro e w2 ⟨r2, rfl, hr2, hb2⟩
  have x3 := cell_later hb2 x3
  have z1 := World.block_lt_of_cell? _ _ x3
  simp only at z1
  have K2 : Hid (Below W.heap.size W w2) := K1.out.trans (hb2.mono K1.out.size)
  clear hb2 K1
  rcases hr2 with rfl | ⟨a2, b2, c2⟩
  · go_wp2
    go_ret
    exact ⟨-1, rfl, Or.inl rfl, HB.out.trans (K2.out.mono HB.out.size)⟩
  have B2 : Hid (r2 + (szV V + V.length : Nat) ≤ r1) := b2
  have C2 : Hid (∀ B ∈ V, SmB B) := c2
  have d2 : r2 ≤ r1 := by omega
  clear b2 c2
  have hsr := (H1.out.keep K2.out).snaps.room
  have hsb := (H1.out.keep K2.out).snaps.big
  have HSL : Hid (S.length = ns) := H1.out.snaps.length
  unfold maxLen at hsb
  have CI : Hid (∀ w', Calls Tryz.prog 36 #[.slice ak ns cs, .int .i64 r2] w' fun e w'' => ∃ r : Int, e = .returned (.int .i64 r) ∧ (r = -1 ∨ (0 ≤ r ∧ r + ns ≤ r2)) ∧ Below w'.heap.size w' w'') := by
    intro w'
    by_cases hb : r2 < ns
    · go_enter Tryz.func36, Tryz.ntmps36
      go_wp2
      go_ret
      exact ⟨-1, rfl, Or.inl rfl, Below.refl _ _⟩
    · go_enter Tryz.func36, Tryz.ntmps36
      go_wp2
      go_ret
      exact ⟨r2 - ns, rfl, Or.inr ⟨by omega, by omega⟩, Below.refl _ _⟩
  clear hsr hsb
  go_wp2_with fail
  refine (CI.out _).mono ?_
  rintro e w3 ⟨r3, rfl, hr3, hb3⟩
  have K3 : Hid (Below W.heap.size W w3) := K2.out.trans (hb3.mono K2.out.size)
  clear hb3 K2
  rcases hr3 with rfl | ⟨a3, b3⟩
  · go_wp2
    go_ret
    exact ⟨-1, rfl, Or.inl rfl, HB.out.trans (K3.out.mono HB.out.size)⟩
  · go_wp2
    go_ret
    have q1 := B1.out
    have q2 := B2.out
    have q3 := HSL.out
    exact ⟨r3, rfl, Or.inr ⟨a3, by omega, C1.out, C2.out⟩, HB.out.trans (K3.out.mono HB.out.size)⟩
theorem small_of_sum {M : List EntD} {V : List (List RunD)} {S : List Int} (h : M.length + (szV V + V.length) + S.length ≤ 1048576) : SmallT M V S :=
  ⟨by omega, ⟨by omega, fun B hB => ⟨by have := szV_mem hB; omega, fun p hp => by have h1 := szL_mem hp; have h2 := szV_mem hB; omega⟩⟩, by omega⟩
end Go.Proofs.YtlmgojlffgkciaaGreat

namespace Go.Proofs.YtlmgojlffgkciaaGreat
open Go.RowKit
theorem TreeIn.lowR {lo lo' : Nat} {w : World} {am av ak : Option Addr} {nm cm nv cv ns cs : Nat} {M : List EntD} {V : List (List RunD)} {S : List Int} (h : TreeIn lo w am nm cm av nv cv ak ns cs M V S) (hl : lo' ≤ lo) : TreeIn lo' w am nm cm av nv cv ak ns cs M V S := ⟨h.mem.mono hl, h.levels.mono hl, h.snaps.lower hl⟩
structure At4 (w : World) (b : Nat) (u0 u1 u2 u3 : Value) : Prop where
  c0 : w.cell? ⟨b, 0, none⟩ = some u0
  c1 : w.cell? ⟨b, 1, none⟩ = some u1
  c2 : w.cell? ⟨b, 2, none⟩ = some u2
  c3 : w.cell? ⟨b, 3, none⟩ = some u3
theorem At4.lt {w : World} {b : Nat} {u0 u1 u2 u3 : Value} (h : At4 w b u0 u1 u2 u3) : b < w.heap.size := World.block_lt_of_cell? w _ h.c0
theorem At4.new (w : World) (t : TypeId) (u0 u1 u2 u3 : Value) : At4 (w.alloc (.cells #[u0, u1, u2, u3] t)) w.heap.size u0 u1 u2 u3 := ⟨by simp, by simp, by simp, by simp⟩
theorem At4.keep {w w' : World} {b : Nat} {u0 u1 u2 u3 : Value} (h : At4 w b u0 u1 u2 u3) (hb : Below w.heap.size w w') : At4 w' b u0 u1 u2 u3 := ⟨cell_later hb h.c0, cell_later hb h.c1, cell_later hb h.c2, cell_later hb h.c3⟩
end Go.Proofs.YtlmgojlffgkciaaGreat

namespace Go.Proofs.YtlmgojlffgkciaaGreat
open Go.RowKit
theorem three_of {q : Int} {M : List EntD} {V : List (List RunD)} {S : List Int} (h : treeB q M V S = true) : ∃ A B C, V = [A, B, C] := by
  have := (tree_parts h).2.2.2.2.2.1
  match V, this with
  | [A, B, C], _ => exact ⟨A, B, C, rfl⟩
end Go.Proofs.YtlmgojlffgkciaaGreat

namespace Go.Proofs.YtlmgojlffgkciaaGreat
open Go.RowKit
structure ShIn (w : World) (am : Option Addr) (nm cm : Nat) (a0 : Option Addr) (n0 c0 : Nat) (a1 : Option Addr) (n1 c1 : Nat) (a2 : Option Addr) (n2 c2 : Nat) (ak : Option Addr) (nk ck : Nat) (M : List EntD) (A B C : List RunD) (S : List Int) : Prop where
  mem : EntsAt w am nm cm M
  r0 : RunsIn 0 w a0 n0 c0 A
  r1 : RunsIn 0 w a1 n1 c1 B
  r2 : RunsIn 0 w a2 n2 c2 C
  sn : IntsIn 0 w ak nk ck S
theorem ShIn.keep {w w' : World} {am a0 a1 a2 ak : Option Addr} {nm cm n0 c0 n1 c1 n2 c2 nk ck : Nat} {M : List EntD} {A B C : List RunD} {S : List Int} (h : ShIn w am nm cm a0 n0 c0 a1 n1 c1 a2 n2 c2 ak nk ck M A B C S) (hb : Below w.heap.size w w') : ShIn w' am nm cm a0 n0 c0 a1 n1 c1 a2 n2 c2 ak nk ck M A B C S := ⟨h.mem.keep hb, h.r0.keep hb, h.r1.keep hb, h.r2.keep hb, h.sn.keep hb⟩
end Go.Proofs.YtlmgojlffgkciaaGreat

namespace Go.Proofs.YtlmgojlffgkciaaGreat
open Go.RowKit
def LevNN (w : World) (b : Nat) (V : List (List RunD)) : Prop := ∀ (i : Nat) (B : List RunD), V[i]? = some B → ∃ e n c, w.cell? ⟨b, i, none⟩ = some (.slice (some ⟨e, 0, none⟩) n c)
theorem LevNN.keep {w w' : World} {b : Nat} {V : List (List RunD)} (h : LevNN w b V) (hb : Below w.heap.size w w') : LevNN w' b V := fun i B hB => by
  obtain ⟨e, n, c, h1⟩ := h i B hB
  exact ⟨e, n, c, cell_later hb h1⟩
theorem TreeBl.levNN {lo hi b1 nm b2 b3 ns : Nat} {w : World} {V : List (List RunD)} (h : TreeBl lo hi w b1 nm b2 V b3 ns) : LevNN w b2 V := fun i B hB => by
  obtain ⟨e, h1, _⟩ := h.levs.levs i B hB
  exact ⟨e, _, _, h1⟩
end Go.Proofs.YtlmgojlffgkciaaGreat
