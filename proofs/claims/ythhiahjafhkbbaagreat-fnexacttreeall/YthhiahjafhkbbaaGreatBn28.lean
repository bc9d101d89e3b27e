/-
  The laws' size of runs, levels, trees: with the sum, and what it says of the texts; by walks of their Go text.
  Plain: what all entries of a tree are, sorted; no statement of the program stands here.
  What a loop body over a function leaves as it was; no statement of the program stands here.
-/
import Derived.Test.YthhiahjafhkbbaaGreatBn23
import Derived.Test.YthhiahjafhkbbaaGreatBn26
import Derived.Test.YthhiahjafhkbbaaGreatBn27
import Derived.Test.YthhiahjafhkbbaaGreatBn20
import Derived.Test.YthhiahjafhkbbaaGreatBn02
import Derived.RangeFuncNested
import Derived.RangeFuncBound
import Derived.RangeFuncCalls
import Derived.RangeFuncLeaves
import Derived.RangeFuncBox
import Derived.Shelf.Abstract
import Derived.Shelf.RegionOpen
import Derived.WalkKit
import Derived.OwnWalkIn
import Derived.TacticsInMore
import Derived.LoopNIn
import Derived.LoopIn
namespace Go.Proofs.YthhiahjafhkbbaaGreat
open Go.RowKit

/-- The entries of runs, and of levels with the runs. -/
def szL (B : List RunD) : Nat := (B.map fun p => p.1.length).sum
def szV (V : List (List RunD)) : Nat := (V.map fun B => szL B + B.length).sum
def SmB (B : List RunD) : Prop := ∀ p ∈ B, ∀ e ∈ p.1, SmT e
theorem szL_take {B : List RunD} {k : Nat} {p : RunD} (h : B[k]? = some p) : szL (B.take (k + 1)) = szL (B.take k) + p.1.length := by
  rw [List.take_add_one, h]
  simp [szL]
theorem szV_take {V : List (List RunD)} {k : Nat} {B : List RunD} (h : V[k]? = some B) : szV (V.take (k + 1)) = szV (V.take k) + (szL B + B.length) := by
  rw [List.take_add_one, h]
  simp [szV]
theorem mem_take_snoc {α : Type} {L : List α} {k : Nat} {x y : α} (h : L[k]? = some x) (hy : y ∈ L.take (k + 1)) : y ∈ L.take k ∨ y = x := by
  rw [List.take_add_one, h] at hy
  simpa using hy
theorem mkR_sz (B : List RunD) : mkR B = 5 * szL B + B.length := by
  induction B with
  | nil => rfl
  | cons p B ih =>
    simp only [mkR, szL, List.map_cons, List.sum_cons, List.length_cons] at ih ⊢
    omega
theorem mkV_sz (V : List (List RunD)) : mkV V ≤ 5 * szV V := by
  induction V with
  | nil => simp [mkV, szV]
  | cons B V ih =>
    have h := mkR_sz B
    simp only [mkV, szV, List.map_cons, List.sum_cons] at ih ⊢
    omega
theorem szL_mem {B : List RunD} {p : RunD} (h : p ∈ B) : p.1.length ≤ szL B := by
  induction B with
  | nil => cases h
  | cons x B ih =>
    simp only [szL, List.map_cons, List.sum_cons] at ih ⊢
    rcases List.mem_cons.1 h with rfl | h
    · omega
    · have := ih h; omega
theorem szV_mem {V : List (List RunD)} {B : List RunD} (h : B ∈ V) : szL B + B.length ≤ szV V := by
  induction V with
  | nil => cases h
  | cons x V ih =>
    simp only [szV, List.map_cons, List.sum_cons] at ih ⊢
    rcases List.mem_cons.1 h with rfl | h
    · omega
    · have := ih h; omega

set_option maxHeartbeats 400000 in
theorem szRun_sum (m : Int) (a : Option Addr) (len cap : Nat) (L : List EntD) (left : Int) (w : World) (hL : EntsAt w a len cap L) (h0 : 0 ≤ left) (h1 : left ≤ 1048576) :
    Calls Tryz.prog 127 #[.agg #[.slice a len cap, .int .i64 m], .int .i64 left] w fun e w' => ∃ r : Int, e = .returned (.int .i64 r) ∧ (r = -1 ∨ (0 ≤ r ∧ r + L.length ≤ left ∧ ∀ e ∈ L, SmT e)) ∧ Below w.heap.size w w' := by
  have hL1 : EntsAt (w.alloc (.cells #[.slice a len cap, .int .i64 m] 175)) a len cap L := hL.keep ((Below.refl _ _).alloc (Nat.le_refl _) _)
  go_enter Tryz.func127, Tryz.ntmps127
  go_wp2_with (go_at_call 49; refine (szEntS_sum _ _ _ _ _ _ hL1 h0 h1).mono ?_; rintro e w1 ⟨r, rfl, hr, hb1⟩)
  · go_ret
    exact ⟨-1, rfl, Or.inl rfl, ((Below.refl _ _).alloc (Nat.le_refl _) _).trans (hb1.mono (by simp))⟩
  · go_ret
    exact ⟨r, rfl, hr, ((Below.refl _ _).alloc (Nat.le_refl _) _).trans (hb1.mono (by simp))⟩

set_option maxHeartbeats 800000 in
theorem szRunS_sum (lo : Nat) (a : Option Addr) (len cap : Nat) (B : List RunD) (left : Int) (w : World) (hP : RunsIn lo w a len cap B) (h0 : 0 ≤ left) (h1 : left ≤ 1048576) :
    Calls Tryz.prog 95 #[.slice a len cap, .int .i64 left] w fun e w' => ∃ r : Int, e = .returned (.int .i64 r) ∧ (r = -1 ∨ (0 ≤ r ∧ r + (szL B + B.length : Nat) ≤ left ∧ SmB B)) ∧ Below w.heap.size w w' := by
  have hbl := hP.room
  have hbc := hP.big
  unfold maxLen at hbc
  have HL : Hid (RunsIn lo w a len cap B) := hP
  have HLEN : Hid (B.length = len) := hP.length
  clear hP
  by_cases hb : left < len
  · go_enter Tryz.func95, Tryz.ntmps95
    go_wp2
    go_ret
    exact ⟨-1, rfl, Or.inl rfl, Below.refl _ _⟩
  · go_enter Tryz.func95, Tryz.ntmps95
    go_wp2
    go_loopw [1, 5] (fun l i wr => ∃ (k : Nat) (r : Int), k ≤ len ∧ i = .int .i64 k ∧ l = .int .i64 r ∧ 0 ≤ r ∧ r ≤ left ∧ r + szL (B.take k) + len ≤ left ∧ Below w.heap.size w wr ∧ ∀ p ∈ B.take k, ∀ e ∈ p.1, SmT e) (fun _ i _ => len - (intOf i).toNat)
    case atStart => exact ⟨0, left - len, Nat.zero_le _, rfl, rfl, by omega, by omega, by simp [szL], Below.refl _ _, fun p hp => by simp at hp⟩
    case round =>
      obtain ⟨k, r, hk, rfl, rfl, hr0, hr1, hrs, hbw, hall⟩ := hrel
      have HALL : Hid (∀ p ∈ B.take k, ∀ e ∈ p.1, SmT e) := hall
      have HRS : Hid (r + szL (B.take k) + len ≤ left) := hrs
      clear hall hrs
      by_cases hlt : k < len
      · obtain ⟨b, off, rfl, hbb⟩ := HL.out.form (by omega)
        obtain ⟨L, m, s, n, c, hg, _, g0, g1, hLk⟩ := HL.out.run hbw k hlt
        have HG : Hid (B[k]? = some (L, m)) := hg
        have hbk : b < wr.heap.size := Nat.lt_of_lt_of_le hbb hbw.size
        clear hg
        go_wp2_with (go_at_call 127; refine (szRun_sum _ _ _ _ L _ _ hLk.1 hr0 (by omega)).mono ?_; rintro e w1 ⟨r', rfl, hr', hb1⟩; rcases hr' with rfl | ⟨hr0', hr1', hln⟩)
        · go_ret
          exact ⟨-1, rfl, Or.inl rfl, hbw.trans (hb1.mono hbw.size)⟩
        · have HR1 : Hid (r' + L.length ≤ r) := hr1'
          have hrl : r' ≤ left := by omega
          have HLN : Hid (∀ e ∈ L, SmT e) := hln
          clear hr1' hln
          go_wp2
          go_roundw
          case rel =>
            refine ⟨k + 1, r', by omega, by go_num, rfl, hr0', hrl, ?_, hbw.trans (hb1.mono hbw.size), fun p hp => ?_⟩
            · have h1 := HR1.out
              have h2 := HRS.out
              have h3 := szL_take HG.out
              simp only at h3
              omega
            · rcases mem_take_snoc HG.out hp with h1 | rfl
              · exact HALL.out p h1
              · exact HLN.out
          case measure => simp [intOf]; omega
      · go_wp2
        go_ret
        have hkl : B.take k = B := List.take_of_length_le (by have := HLEN.out; omega)
        have h2 := HRS.out
        have h3 := HALL.out
        have h4 := HLEN.out
        rw [hkl] at h2 h3
        exact ⟨r, rfl, Or.inr ⟨hr0, by omega, h3⟩, hbw⟩

set_option maxHeartbeats 800000 in
theorem szRunSS_sum (lo : Nat) (a : Option Addr) (len cap : Nat) (V : List (List RunD)) (left : Int) (w : World) (hP : LevelsIn lo w a len cap V) (h0 : 0 ≤ left) (h1 : left ≤ 1048576) :
    Calls Tryz.prog 50 #[.slice a len cap, .int .i64 left] w fun e w' => ∃ r : Int, e = .returned (.int .i64 r) ∧ (r = -1 ∨ (0 ≤ r ∧ r + (szV V + V.length : Nat) ≤ left ∧ ∀ B ∈ V, SmB B)) ∧ Below w.heap.size w w' := by
  have hbl := hP.room
  have hbc := hP.big
  unfold maxLen at hbc
  have HL : Hid (LevelsIn lo w a len cap V) := hP
  have HLEN : Hid (V.length = len) := hP.length
  clear hP
  by_cases hb : left < len
  · go_enter Tryz.func50, Tryz.ntmps50
    go_wp2
    go_ret
    exact ⟨-1, rfl, Or.inl rfl, Below.refl _ _⟩
  · go_enter Tryz.func50, Tryz.ntmps50
    go_wp2
    go_loopw [1, 5] (fun l i wr => ∃ (k : Nat) (r : Int), k ≤ len ∧ i = .int .i64 k ∧ l = .int .i64 r ∧ 0 ≤ r ∧ r ≤ left ∧ r + szV (V.take k) + len ≤ left ∧ Below w.heap.size w wr ∧ ∀ p ∈ V.take k, SmB p) (fun _ i _ => len - (intOf i).toNat)
    case atStart => exact ⟨0, left - len, Nat.zero_le _, rfl, rfl, by omega, by omega, by simp [szV], Below.refl _ _, fun p hp => by simp at hp⟩
    case round =>
      obtain ⟨k, r, hk, rfl, rfl, hr0, hr1, hrs, hbw, hall⟩ := hrel
      have HALL : Hid (∀ p ∈ V.take k, SmB p) := hall
      have HRS : Hid (r + szV (V.take k) + len ≤ left) := hrs
      clear hall hrs
      by_cases hlt : k < len
      · obtain ⟨b, off, rfl, hbb⟩ := HL.out.form (by omega)
        obtain ⟨B, s, n, c, hg, g0, hLk⟩ := HL.out.level hbw k hlt
        have HG : Hid (V[k]? = some B) := hg
        have hbk : b < wr.heap.size := Nat.lt_of_lt_of_le hbb hbw.size
        clear hg
        go_wp2_with (go_at_call 95; refine (szRunS_sum lo _ _ _ B _ _ hLk hr0 (by omega)).mono ?_; rintro e w1 ⟨r', rfl, hr', hb1⟩; rcases hr' with rfl | ⟨hr0', hr1', hln⟩)
        · go_ret
          exact ⟨-1, rfl, Or.inl rfl, hbw.trans (hb1.mono hbw.size)⟩
        · have HR1 : Hid (r' + (szL B + B.length : Nat) ≤ r) := hr1'
          have hrl : r' ≤ left := by omega
          have HLN : Hid (SmB B) := hln
          clear hr1' hln
          go_wp2
          go_roundw
          case rel =>
            refine ⟨k + 1, r', by omega, by go_num, rfl, hr0', hrl, ?_, hbw.trans (hb1.mono hbw.size), fun p hp => ?_⟩
            · have h1 := HR1.out
              have h2 := HRS.out
              have h3 := szV_take HG.out
              omega
            · rcases mem_take_snoc HG.out hp with h1 | rfl
              · exact HALL.out p h1
              · exact HLN.out
          case measure => simp [intOf]; omega
      · go_wp2
        go_ret
        have hkl : V.take k = V := List.take_of_length_le (by have := HLEN.out; omega)
        have h2 := HRS.out
        have h3 := HALL.out
        have h4 := HLEN.out
        rw [hkl] at h2 h3
        exact ⟨r, rfl, Or.inr ⟨hr0, by omega, h3⟩, hbw⟩

set_option maxHeartbeats 800000 in
theorem szTree_sum (q : Int) (lo : Nat) (am av ak : Option Addr) (nm cm nv cv ns cs : Nat) (M : List EntD) (V : List (List RunD)) (S : List Int) (left : Int) (w : World) (h : TreeIn lo w am nm cm av nv cv ak ns cs M V S) (h0 : 0 ≤ left) (h1 : left ≤ 1048576) :
    Calls Tryz.prog 13 #[.agg #[.int .i64 q, .slice am nm cm, .slice av nv cv, .slice ak ns cs], .int .i64 left] w fun e w' => ∃ r : Int, e = .returned (.int .i64 r) ∧ (r = -1 ∨ (0 ≤ r ∧ r + (M.length + (szV V + V.length) + S.length : Nat) ≤ left ∧ (∀ e ∈ M, SmT e) ∧ ∀ B ∈ V, SmB B)) ∧ Below w.heap.size w w' := by
  obtain ⟨W, hW⟩ : ∃ W, W = w.alloc (.cells #[.int .i64 q, .slice am nm cm, .slice av nv cv, .slice ak ns cs] 40) := ⟨_, rfl⟩
  have hB : Below w.heap.size w W := by rw [hW]; exact (Below.refl _ _).alloc (Nat.le_refl _) _
  have x2 : W.cell? ⟨w.heap.size, 2, none⟩ = some (.slice av nv cv) := by rw [hW]; simp
  have x3 : W.cell? ⟨w.heap.size, 3, none⟩ = some (.slice ak ns cs) := by rw [hW]; simp
  have H1 : Hid (TreeIn lo W am nm cm av nv cv ak ns cs M V S) := h.keep hB
  have HB : Hid (Below w.heap.size w W) := hB
  clear h hB
  go_enter Tryz.func13, Tryz.ntmps13
  go_wp2_with fail
  rw [← hW]
  clear hW
  refine (szEntS_sum _ _ _ M _ _ H1.out.mem.1 h0 h1).mono ?_
  rintro e w1 ⟨r1, rfl, hr1, hb1⟩
  have x2 := cell_later hb1 x2
  have x3 := cell_later hb1 x3
  have z1 := World.block_lt_of_cell? _ _ x2
  simp only at z1
  have K1 : Hid (Below W.heap.size W w1) := hb1
  clear hb1
  rcases hr1 with rfl | ⟨a1, b1, c1⟩
  · go_wp2
    go_ret
    exact ⟨-1, rfl, Or.inl rfl, HB.out.trans (K1.out.mono HB.out.size)⟩
  have B1 : Hid (r1 + M.length ≤ left) := b1
  have C1 : Hid (∀ e ∈ M, SmT e) := c1
  have d1 : r1 ≤ left := by omega
  clear b1 c1
  go_wp2_with fail
  refine (szRunSS_sum lo _ _ _ V _ _ (H1.out.keep K1.out).levels a1 (by omega)).mono ?_
  rintro e w2 ⟨r2, rfl, hr2, hb2⟩
  have x3 := cell_later hb2 x3
  have z1 := World.block_lt_of_cell? _ _ x3
  simp only at z1
  have K2 : Hid (Below W.heap.size W w2) := K1.out.trans (hb2.mono K1.out.size)
  clear hb2 K1
  rcases hr2 with rfl | ⟨a2, b2, c2⟩
  · go_wp2
    go_ret
    exact ⟨-1, rfl, Or.inl rfl, HB.out.trans (K2.out.mono HB.out.size)⟩
  have B2 : Hid (r2 + (szV V + V.length : Nat) ≤ r1) := b2
  have C2 : Hid (∀ B ∈ V, SmB B) := c2
  have d2 : r2 ≤ r1 := by omega
  clear b2 c2
  have hsr := (H1.out.keep K2.out).snaps.room
  have hsb := (H1.out.keep K2.out).snaps.big
  have HSL : Hid (S.length = ns) := H1.out.snaps.length
  unfold maxLen at hsb
  have CI : Hid (∀ w', Calls Tryz.prog 51 #[.slice ak ns cs, .int .i64 r2] w' fun e w'' => ∃ r : Int, e = .returned (.int .i64 r) ∧ (r = -1 ∨ (0 ≤ r ∧ r + ns ≤ r2)) ∧ Below w'.heap.size w' w'') := by
    intro w'
    by_cases hb : r2 < ns
    · go_enter Tryz.func51, Tryz.ntmps51
      go_wp2
      go_ret
      exact ⟨-1, rfl, Or.inl rfl, Below.refl _ _⟩
    · go_enter Tryz.func51, Tryz.ntmps51
      go_wp2
      go_ret
      exact ⟨r2 - ns, rfl, Or.inr ⟨by omega, by omega⟩, Below.refl _ _⟩
  clear hsr hsb
  go_wp2_with fail
  refine (CI.out _).mono ?_
  rintro e w3 ⟨r3, rfl, hr3, hb3⟩
  have K3 : Hid (Below W.heap.size W w3) := K2.out.trans (hb3.mono K2.out.size)
  clear hb3 K2
  rcases hr3 with rfl | ⟨a3, b3⟩
  · go_wp2
    go_ret
    exact ⟨-1, rfl, Or.inl rfl, HB.out.trans (K3.out.mono HB.out.size)⟩
  · go_wp2
    go_ret
    have q1 := B1.out
    have q2 := B2.out
    have q3 := HSL.out
    exact ⟨r3, rfl, Or.inr ⟨a3, by omega, C1.out, C2.out⟩, HB.out.trans (K3.out.mono HB.out.size)⟩
/-- What the size says. -/
theorem small_of_sum {M : List EntD} {V : List (List RunD)} {S : List Int} (h : M.length + (szV V + V.length) + S.length ≤ 1048576) : SmallT M V S :=
  ⟨by omega, ⟨by omega, fun B hB => ⟨by have := szV_mem hB; omega, fun p hp => by have h1 := szL_mem hp; have h2 := szV_mem hB; omega⟩⟩, by omega⟩
end Go.Proofs.YthhiahjafhkbbaaGreat

namespace Go.Proofs.YthhiahjafhkbbaaGreat
open Go.RowKit

/-- What TreeAll answers. -/
def allL (q : Int) (M : List EntD) (V : List (List RunD)) (S : List Int) : List EntD := if treeB q M V S then sortE (partsL M V).flatten else []
theorem tree_unlike {q : Int} {M : List EntD} {A B C : List RunD} {S : List Int} (h : treeB q M [A, B, C] S = true) : Unlike (listsL M A B C).flatten := by
  have h1 := ((tree_impl q M A B C S).1 h).2.2.2.2.2.2
  refine ((newer_iff q _).1 h1).1.imp ?_
  intro x y ho e
  have := ho e.1
  omega
theorem rev_flatR (B : List RunD) : (B.reverse.map (·.1)).flatten.Perm (flatR B) := by
  unfold flatR
  rw [List.flatMap_def]
  exact ((List.reverse_perm B).map _).flatten
theorem lists_flat (M : List EntD) (A B C : List RunD) : (listsL M A B C).flatten.Perm (M ++ (flatR A ++ (flatR B ++ flatR C))) := by
  unfold listsL
  simp only [List.flatten_cons, List.flatten_append]
  exact (((rev_flatR A).append ((rev_flatR B).append (rev_flatR C)))).append_left _
theorem parts_flat (M : List EntD) (A B C : List RunD) : (partsL M [A, B, C]).flatten.Perm (M ++ (flatR A ++ (flatR B ++ flatR C))) := by
  unfold partsL
  simp only [List.headD_cons, List.drop_succ_cons, List.drop_zero, List.map_cons, List.map_nil, List.cons_append, List.flatten_cons, List.flatten_append, List.flatten_nil, List.append_nil]
  exact ((rev_flatR A).append_right _).append_left _
theorem sort_tree {q : Int} {M : List EntD} {A B C : List RunD} {S : List Int} (h : treeB q M [A, B, C] S = true) : sortE (listsL M A B C).flatten = sortE (partsL M [A, B, C]).flatten :=
  sort_unlike (tree_unlike h) ((lists_flat M A B C).trans (parts_flat M A B C).symm)
theorem flatR_sz (B : List RunD) : (flatR B).length = szL B := by
  unfold flatR szL
  rw [List.length_flatMap]
theorem flatR_sm {B : List RunD} (h : SmB B) : ∀ e ∈ flatR B, SmT e := by
  unfold flatR
  intro e he
  obtain ⟨p, hp, he⟩ := List.mem_flatMap.1 he
  exact h p hp e he
theorem tree_len (M : List EntD) (A B C : List RunD) : (M ++ (flatR A ++ (flatR B ++ flatR C))).length ≤ M.length + (szV [A, B, C] + [A, B, C].length) := by
  simp only [List.length_append, flatR_sz, szV, List.map_cons, List.map_nil, List.sum_cons, List.sum_nil]
  omega
theorem tree_sm {M : List EntD} {A B C : List RunD} (hM : ∀ e ∈ M, SmT e) (hV : ∀ Z ∈ [A, B, C], SmB Z) : ∀ e ∈ M ++ (flatR A ++ (flatR B ++ flatR C)), SmT e := by
  intro e he
  rcases List.mem_append.1 he with h | h
  · exact hM e h
  rcases List.mem_append.1 h with h | h
  · exact flatR_sm (hV A (by simp)) e h
  rcases List.mem_append.1 h with h | h
  · exact flatR_sm (hV B (by simp)) e h
  · exact flatR_sm (hV C (by simp)) e h
theorem three_of {q : Int} {M : List EntD} {V : List (List RunD)} {S : List Int} (h : treeB q M V S = true) : ∃ A B C, V = [A, B, C] := by
  have := (tree_parts h).2.2.2.2.2.1
  match V, this with
  | [A, B, C], _ => exact ⟨A, B, C, rfl⟩
theorem allL_len {q : Int} {M : List EntD} {V : List (List RunD)} {S : List Int} : (allL q M V S).length ≤ M.length + (szV V + V.length) := by
  unfold allL
  by_cases h : treeB q M V S = true
  · rw [if_pos h]
    obtain ⟨A, B, C, rfl⟩ := three_of h
    rw [(sort_both _).2.length_eq, (parts_flat M A B C).length_eq]
    exact tree_len M A B C
  · rw [if_neg h]
    simp
end Go.Proofs.YthhiahjafhkbbaaGreat

namespace Go.Proofs.YthhiahjafhkbbaaGreat
open Go.RowKit Go.Shelf

/-- The blocks of K are as they were. -/
structure KeepS (K : Nat → Prop) (w w' : World) : Prop where
  os : w'.os = w.os
  tape : w'.tape = w.tape
  output : w'.output = w.output
  size : w.heap.size ≤ w'.heap.size
  block : ∀ k, K k → w'.heap[k]? = w.heap[k]?
theorem KeepS.of {K : Nat → Prop} {n₀ : Nat} {w w' : World} (h : Below n₀ w w') (hK : ∀ k, K k → k < n₀) : KeepS K w w' := ⟨h.os, h.tape, h.output, h.size, fun k hk => h.block k (hK k hk)⟩
theorem KeepS.refl (K : Nat → Prop) (w : World) : KeepS K w w := ⟨rfl, rfl, rfl, Nat.le_refl _, fun _ _ => rfl⟩
theorem KeepS.trans {K : Nat → Prop} {a b c : World} (h : KeepS K a b) (k : KeepS K b c) : KeepS K a c :=
  ⟨k.os.trans h.os, k.tape.trans h.tape, k.output.trans h.output, Nat.le_trans h.size k.size, fun i hi => (k.block i hi).trans (h.block i hi)⟩
theorem KeepS.cell {K : Nat → Prop} {w w' : World} (h : KeepS K w w') {p : Addr} (hp : K p.block) : w'.cell? p = w.cell? p := World.cell?_of_block (w := w) (h.block p.block hp)
theorem KeepS.grown {K : Nat → Prop} {w w' : World} {row : Option Nat} (hg : w.grownBy w' row) (hK : ∀ k, K k → k < w.heap.size ∧ some k ≠ row) : KeepS K w w' := ⟨hg.os, hg.tape, hg.output, hg.size, fun k hk => hg.block k (hK k hk).1 (hK k hk).2⟩
theorem keepS_b {K : Nat → Prop} {w : World} (hK : ∀ k, K k → k < w.heap.size) (W : World) (l : Nat) (o o' : Obj) (hl : w.heap.size ≤ l) (h : W.heap[l]? = some o) (hc : o.isCells = false) (hw : o.isWalk = false) : KeepS K W (W.putObj l o') :=
  KeepS.of (belowK_b (n₀ := w.heap.size) (w := w) (Nat.le_refl _) W l o o' hl h hc hw) hK
theorem EntsAt.keepS {K : Nat → Prop} {w w' : World} {a : Option Addr} {len cap : Nat} {L : List EntD} (h : EntsAt w a len cap L) (hk : KeepS K w w') (hK : ∀ x, a = some x → 0 < len → K x.block) : EntsAt w' a len cap L :=
  h.moved hk.size (fun x e hp o => hk.cell (p := ⟨x.block, o, none⟩) (hK x e hp))
end Go.Proofs.YthhiahjafhkbbaaGreat
