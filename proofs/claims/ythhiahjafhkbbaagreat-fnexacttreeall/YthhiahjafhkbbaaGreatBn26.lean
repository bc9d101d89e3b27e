/-
  The laws' own helpers: that two lists of runs, of levels, of numbers, two trees are the same, by walks of their Go text.
  A block of a kind and a size, whatever it holds.
  The texts that the laws mark memory with, by a walk of their Go text.
-/
import Derived.Test.YthhiahjafhkbbaaGreatBn25
import Derived.Deep.QuietTactic
import Derived.BigQuiet
import Derived.Test.YthhiahjafhkbbaaGreatBn14
import Derived.Test.YthhiahjafhkbbaaGreatProg
import Derived.Test.YthhiahjafhkbbaaGreatBn00
import Derived.Test.YthhiahjafhkbbaaGreatBn02
import Derived.Lib.SlBytesRow
import Derived.Deep.LoopGhost
import Derived.WalkKit
import Derived.WalkSpells
import Derived.WalkLawsBesides
namespace Go.Proofs.YthhiahjafhkbbaaGreat
open Go.RowKit

set_option maxHeartbeats 800000 in
theorem eqEntsOpt (a1 a2 : Option Addr) (len cap1 cap2 : Nat) (L : List EntD) (w : World) (h1 : EntsAt w a1 len cap1 L) (h2 : EntsAt w a2 len cap2 L) :
    Calls Tryz.prog 24 #[.slice a1 len cap1, .slice a2 len cap2] w fun e w' => e = .returned (.bool true) ∧ Below w.heap.size w w' := by
  by_cases h0 : len = 0
  · subst h0
    go_enter Tryz.func24, Tryz.ntmps24
    go_wp2
    go_loopw [5] (fun i wr => i = .int .i64 0 ∧ Below w.heap.size w wr) (fun i _ => 0)
    case atStart => exact ⟨rfl, Below.refl _ _⟩
    case round =>
      obtain ⟨rfl, hb⟩ := hrel
      go_wp2
      go_ret
      exact ⟨rfl, hb⟩
  · obtain ⟨b1, o1, rfl, _⟩ := h1.form (by omega)
    obtain ⟨b2, o2, rfl, _⟩ := h2.form (by omega)
    exact eqEntS_same _ _ _ _ _ _ _ L _ h1 h2

set_option maxHeartbeats 800000 in
theorem eqRun_opt (m : Int) (a1 a2 : Option Addr) (len cap1 cap2 : Nat) (L : List EntD) (w : World) (h1 : EntsAt w a1 len cap1 L) (h2 : EntsAt w a2 len cap2 L) :
    Calls Tryz.prog 135 #[.agg #[.slice a1 len cap1, .int .i64 m], .agg #[.slice a2 len cap2, .int .i64 m]] w fun e w' => e = .returned (.bool true) ∧ Below w.heap.size w w' := by
  have hB : Below w.heap.size w ((w.alloc (.cells #[.slice a1 len cap1, .int .i64 m] 157)).alloc (.cells #[.slice a2 len cap2, .int .i64 m] 157)) := ((Below.refl _ _).alloc (Nat.le_refl _) _).alloc (by simp) _
  go_enter Tryz.func135, Tryz.ntmps135
  go_wp2_with (go_at_call 24; refine (eqEntsOpt _ _ _ _ _ L _ (h1.keep hB) (h2.keep hB)).mono ?_; rintro e w1 ⟨rfl, hb1⟩; obtain ⟨hc1, hf1⟩ := bcell hb1)
  go_ret
  exact ⟨rfl, hB.trans (hb1.mono (by simp; omega))⟩

set_option maxHeartbeats 1600000 in
theorem eqRunS_opt (lo1 lo2 : Nat) (a1 a2 : Option Addr) (len cap1 cap2 : Nat) (B : List RunD) (w : World) (h1 : RunsIn lo1 w a1 len cap1 B) (h2 : RunsIn lo2 w a2 len cap2 B) :
    Calls Tryz.prog 106 #[.slice a1 len cap1, .slice a2 len cap2] w fun e w' => e = .returned (.bool true) ∧ Below w.heap.size w w' := by
  have hbl := h1.room
  have hbc := h1.big
  unfold maxLen at hbc
  have H1 : Hid (RunsIn lo1 w a1 len cap1 B) := h1
  have H2 : Hid (RunsIn lo2 w a2 len cap2 B) := h2
  clear h1 h2
  go_enter Tryz.func106, Tryz.ntmps106
  go_wp2
  go_loopw [5] (fun i wr => ∃ k : Nat, k ≤ len ∧ i = .int .i64 k ∧ Below w.heap.size w wr) (fun i _ => len - (intOf i).toNat)
  case atStart => exact ⟨0, Nat.zero_le _, rfl, Below.refl _ _⟩
  case round =>
    obtain ⟨k, hk, rfl, hb⟩ := hrel
    by_cases hlt : k < len
    · obtain ⟨b1, o1, rfl, hb1⟩ := H1.out.form (by omega)
      obtain ⟨b2, o2, rfl, hb2⟩ := H2.out.form (by omega)
      obtain ⟨L, m, s, n, c, hg, _, g0, g1, hLk⟩ := H1.out.run hb k hlt
      obtain ⟨L', m', s', n', c', hg', _, q0, q1, hLk'⟩ := H2.out.run hb k hlt
      rw [hg] at hg'
      cases hg'
      obtain rfl : n' = n := hLk'.1.length.symm.trans hLk.1.length
      have hb1' : b1 < wr.heap.size := Nat.lt_of_lt_of_le hb1 hb.size
      have hb2' : b2 < wr.heap.size := Nat.lt_of_lt_of_le hb2 hb.size
      have lk := hLk.1.keep ((Below.refl _ wr).drew)
      have lk' := hLk'.1.keep ((Below.refl _ wr).drew)
      clear hg hLk hLk'
      have hltI : (k : Int) < (len : Int) := by omega
      go_wp2_with fail
      go_region_with (go_at_call 135; refine (eqRun_opt _ _ _ _ _ _ L _ lk lk').mono ?_; rintro e w1 ⟨rfl, hb1⟩)
      all_goals
        go_wp2
        go_roundw
        case rel => exact ⟨k + 1, by omega, by go_num, hb.drew.trans (hb1.mono hb.size)⟩
        case measure => simp [intOf]; omega
    · go_wp2
      go_ret
      exact ⟨rfl, hb⟩

set_option maxHeartbeats 1600000 in
theorem eqRunSS_opt (lo1 lo2 : Nat) (a1 a2 : Option Addr) (len cap1 cap2 : Nat) (V : List (List RunD)) (w : World) (h1 : LevelsIn lo1 w a1 len cap1 V) (h2 : LevelsIn lo2 w a2 len cap2 V) :
    Calls Tryz.prog 60 #[.slice a1 len cap1, .slice a2 len cap2] w fun e w' => e = .returned (.bool true) ∧ Below w.heap.size w w' := by
  have hbl := h1.room
  have hbc := h1.big
  unfold maxLen at hbc
  have H1 : Hid (LevelsIn lo1 w a1 len cap1 V) := h1
  have H2 : Hid (LevelsIn lo2 w a2 len cap2 V) := h2
  clear h1 h2
  go_enter Tryz.func60, Tryz.ntmps60
  go_wp2
  go_loopw [5] (fun i wr => ∃ k : Nat, k ≤ len ∧ i = .int .i64 k ∧ Below w.heap.size w wr) (fun i _ => len - (intOf i).toNat)
  case atStart => exact ⟨0, Nat.zero_le _, rfl, Below.refl _ _⟩
  case round =>
    obtain ⟨k, hk, rfl, hb⟩ := hrel
    by_cases hlt : k < len
    · obtain ⟨b1, o1, rfl, hb1⟩ := H1.out.form (by omega)
      obtain ⟨b2, o2, rfl, hb2⟩ := H2.out.form (by omega)
      obtain ⟨B, s, n, c, hg, g0, hLk⟩ := H1.out.level hb k hlt
      obtain ⟨B', s', n', c', hg', q0, hLk'⟩ := H2.out.level hb k hlt
      rw [hg] at hg'
      cases hg'
      obtain rfl : n' = n := hLk'.length.symm.trans hLk.length
      have hb1' : b1 < wr.heap.size := Nat.lt_of_lt_of_le hb1 hb.size
      have hb2' : b2 < wr.heap.size := Nat.lt_of_lt_of_le hb2 hb.size
      have lk := hLk.keep ((Below.refl _ wr).drew)
      have lk' := hLk'.keep ((Below.refl _ wr).drew)
      clear hg hLk hLk'
      have hltI : (k : Int) < (len : Int) := by omega
      go_wp2_with fail
      go_region_with (go_at_call 106; refine (eqRunS_opt lo1 lo2 _ _ _ _ _ B _ lk lk').mono ?_; rintro e w1 ⟨rfl, hb1⟩)
      all_goals
        go_wp2
        go_roundw
        case rel => exact ⟨k + 1, by omega, by go_num, hb.drew.trans (hb1.mono hb.size)⟩
        case measure => simp [intOf]; omega
    · go_wp2
      go_ret
      exact ⟨rfl, hb⟩

set_option maxHeartbeats 1600000 in
theorem eqIntS_opt (lo1 lo2 : Nat) (a1 a2 : Option Addr) (len cap1 cap2 : Nat) (S : List Int) (w : World) (h1 : IntsIn lo1 w a1 len cap1 S) (h2 : IntsIn lo2 w a2 len cap2 S) :
    Calls Tryz.prog 61 #[.slice a1 len cap1, .slice a2 len cap2] w fun e w' => e = .returned (.bool true) ∧ Below w.heap.size w w' := by
  have hbl := h1.room
  have hbc := h1.big
  unfold maxLen at hbc
  have H1 : Hid (IntsIn lo1 w a1 len cap1 S) := h1
  have H2 : Hid (IntsIn lo2 w a2 len cap2 S) := h2
  clear h1 h2
  go_enter Tryz.func61, Tryz.ntmps61
  go_wp2
  go_loopw [5] (fun i wr => ∃ k : Nat, k ≤ len ∧ i = .int .i64 k ∧ Below w.heap.size w wr) (fun i _ => len - (intOf i).toNat)
  case atStart => exact ⟨0, Nat.zero_le _, rfl, Below.refl _ _⟩
  case round =>
    obtain ⟨k, hk, rfl, hb⟩ := hrel
    by_cases hlt : k < len
    · obtain ⟨b1, o1, rfl, hb1⟩ := H1.out.form (by omega)
      obtain ⟨b2, o2, rfl, hb2⟩ := H2.out.form (by omega)
      obtain ⟨q, hg, _, g0⟩ := H1.out.num hb k hlt
      obtain ⟨q', hg', _, q0⟩ := H2.out.num hb k hlt
      rw [hg] at hg'
      cases hg'
      have hb1' : b1 < wr.heap.size := Nat.lt_of_lt_of_le hb1 hb.size
      have hb2' : b2 < wr.heap.size := Nat.lt_of_lt_of_le hb2 hb.size
      clear hg
      have hltI : (k : Int) < (len : Int) := by omega
      go_wp2_with fail
      go_quiet (fail)
      go_wp2
      go_roundw
      case rel => exact ⟨k + 1, by omega, by go_num, below_drewN hb _⟩
      case measure => simp [intOf]; omega
    · go_wp2
      go_ret
      exact ⟨rfl, hb⟩

set_option maxHeartbeats 800000 in
theorem eqTree_opt (q : Int) (lo1 lo2 : Nat) (am av ak : Option Addr) (nm cm nv cv ns cs : Nat) (am' av' ak' : Option Addr) (cm' cv' cs' : Nat) (M : List EntD) (V : List (List RunD)) (S : List Int) (w : World) (h1 : TreeIn lo1 w am nm cm av nv cv ak ns cs M V S) (h2 : TreeIn lo2 w am' nm cm' av' nv cv' ak' ns cs' M V S) :
    Calls Tryz.prog 17 #[.agg #[.int .i64 q, .slice am nm cm, .slice av nv cv, .slice ak ns cs], .agg #[.int .i64 q, .slice am' nm cm', .slice av' nv cv', .slice ak' ns cs']] w fun e w' => e = .returned (.bool true) ∧ Below w.heap.size w w' := by
  obtain ⟨W, hW⟩ : ∃ W, W = (w.alloc (.cells #[.int .i64 q, .slice am nm cm, .slice av nv cv, .slice ak ns cs] 44)).alloc (.cells #[.int .i64 q, .slice am' nm cm', .slice av' nv cv', .slice ak' ns cs'] 44) := ⟨_, rfl⟩
  have hB : Below w.heap.size w W := by rw [hW]; exact ((Below.refl _ _).alloc (Nat.le_refl _) _).alloc (by simp) _
  have x2 : W.cell? ⟨w.heap.size, 2, none⟩ = some (.slice av nv cv) := by rw [hW]; simp
  have x3 : W.cell? ⟨w.heap.size, 3, none⟩ = some (.slice ak ns cs) := by rw [hW]; simp
  have y2 : W.cell? ⟨w.heap.size + 1, 2, none⟩ = some (.slice av' nv cv') := by rw [hW]; simp
  have y3 : W.cell? ⟨w.heap.size + 1, 3, none⟩ = some (.slice ak' ns cs') := by rw [hW]; simp
  have H1 : Hid (TreeIn lo1 W am nm cm av nv cv ak ns cs M V S) := h1.keep hB
  have H2 : Hid (TreeIn lo2 W am' nm cm' av' nv cv' ak' ns cs' M V S) := h2.keep hB
  have HB : Hid (Below w.heap.size w W) := hB
  clear h1 h2 hB
  go_enter Tryz.func17, Tryz.ntmps17
  go_wp2_with fail
  rw [← hW]
  clear hW
  refine (eqEntsOpt _ _ _ _ _ M _ H1.out.mem.1 H2.out.mem.1).mono ?_
  rintro e w1 ⟨rfl, hb1⟩
  have x2 := cell_later hb1 x2
  have x3 := cell_later hb1 x3
  have y2 := cell_later hb1 y2
  have y3 := cell_later hb1 y3
  have z1 := World.block_lt_of_cell? _ _ x2
  have z2 := World.block_lt_of_cell? _ _ y2
  simp only at z1 z2
  have K1 : Hid (Below W.heap.size W w1) := hb1
  clear hb1
  go_wp2_with fail
  refine (eqRunSS_opt lo1 lo2 _ _ _ _ _ V _ (H1.out.keep K1.out).levels (H2.out.keep K1.out).levels).mono ?_
  rintro e w2 ⟨rfl, hb2⟩
  have x3 := cell_later hb2 x3
  have y3 := cell_later hb2 y3
  have z1 := World.block_lt_of_cell? _ _ x3
  have z2 := World.block_lt_of_cell? _ _ y3
  simp only at z1 z2
  have K2 : Hid (Below W.heap.size W w2) := K1.out.trans (hb2.mono K1.out.size)
  clear hb2 K1
  go_wp2_with fail
  refine (eqIntS_opt lo1 lo2 _ _ _ _ _ S _ (H1.out.keep K2.out).snaps (H2.out.keep K2.out).snaps).mono ?_
  rintro e w3 ⟨rfl, hb3⟩
  have K3 : Hid (Below W.heap.size W w3) := K2.out.trans (hb3.mono K2.out.size)
  clear hb3 K2
  go_wp2
  go_ret
  exact ⟨rfl, HB.out.trans (K3.out.mono HB.out.size)⟩

/-- A tree that is not too great. -/
def SmallT (M : List EntD) (V : List (List RunD)) (S : List Int) : Prop := M.length ≤ 1048576 ∧ SmallV V ∧ S.length ≤ 1048576

set_option maxHeartbeats 800000 in
theorem szTree_any (q : Int) (lo : Nat) (am av ak : Option Addr) (nm cm nv cv ns cs : Nat) (M : List EntD) (V : List (List RunD)) (S : List Int) (left : Int) (w : World) (h : TreeIn lo w am nm cm av nv cv ak ns cs M V S) (h0 : 0 ≤ left) (h1 : left ≤ 1048576) :
    Calls Tryz.prog 13 #[.agg #[.int .i64 q, .slice am nm cm, .slice av nv cv, .slice ak ns cs], .int .i64 left] w fun e w' => ∃ r : Int, e = .returned (.int .i64 r) ∧ (r = -1 ∨ (0 ≤ r ∧ r ≤ left ∧ SmallT M V S)) ∧ Below w.heap.size w w' := by
  obtain ⟨W, hW⟩ : ∃ W, W = w.alloc (.cells #[.int .i64 q, .slice am nm cm, .slice av nv cv, .slice ak ns cs] 40) := ⟨_, rfl⟩
  have hB : Below w.heap.size w W := by rw [hW]; exact (Below.refl _ _).alloc (Nat.le_refl _) _
  have x2 : W.cell? ⟨w.heap.size, 2, none⟩ = some (.slice av nv cv) := by rw [hW]; simp
  have x3 : W.cell? ⟨w.heap.size, 3, none⟩ = some (.slice ak ns cs) := by rw [hW]; simp
  have H1 : Hid (TreeIn lo W am nm cm av nv cv ak ns cs M V S) := h.keep hB
  have HB : Hid (Below w.heap.size w W) := hB
  clear h hB
  go_enter Tryz.func13, Tryz.ntmps13
  go_wp2_with fail
  rw [← hW]
  clear hW
  refine (szEntS_any _ _ _ M _ _ H1.out.mem.1 h0 h1).mono ?_
  rintro e w1 ⟨r1, rfl, hr1, hb1⟩
  have x2 := cell_later hb1 x2
  have x3 := cell_later hb1 x3
  have z1 := World.block_lt_of_cell? _ _ x2
  simp only at z1
  have K1 : Hid (Below W.heap.size W w1) := hb1
  clear hb1
  rcases hr1 with rfl | ⟨a1, b1, c1⟩
  · go_wp2
    go_ret
    exact ⟨-1, rfl, Or.inl rfl, HB.out.trans (K1.out.mono HB.out.size)⟩
  go_wp2_with fail
  refine (szRunSS_any lo _ _ _ V _ _ (H1.out.keep K1.out).levels a1 (by omega)).mono ?_
  rintro e w2 ⟨r2, rfl, hr2, hb2⟩
  have x3 := cell_later hb2 x3
  have z1 := World.block_lt_of_cell? _ _ x3
  simp only at z1
  have K2 : Hid (Below W.heap.size W w2) := K1.out.trans (hb2.mono K1.out.size)
  clear hb2 K1
  rcases hr2 with rfl | ⟨a2, b2, c2⟩
  · go_wp2
    go_ret
    exact ⟨-1, rfl, Or.inl rfl, HB.out.trans (K2.out.mono HB.out.size)⟩
  have C2 : Hid (SmallV V) := c2
  clear c2
  go_wp2_with fail
  refine (szIntS_any lo _ _ _ S _ _ (H1.out.keep K2.out).snaps a2 (by omega)).mono ?_
  rintro e w3 ⟨r3, rfl, hr3, hb3⟩
  have K3 : Hid (Below W.heap.size W w3) := K2.out.trans (hb3.mono K2.out.size)
  clear hb3 K2
  rcases hr3 with rfl | ⟨a3, b3, c3⟩
  · go_wp2
    go_ret
    exact ⟨-1, rfl, Or.inl rfl, HB.out.trans (K3.out.mono HB.out.size)⟩
  · go_wp2
    go_ret
    exact ⟨r3, rfl, Or.inr ⟨a3, by omega, ⟨by have := H1.out.mem.1.length; omega, C2.out, by have := H1.out.snaps.length; omega⟩⟩, HB.out.trans (K3.out.mono HB.out.size)⟩
end Go.Proofs.YthhiahjafhkbbaaGreat

namespace Go.Proofs.YthhiahjafhkbbaaGreat
open Go.RowKit

/-- Block g has cells of a kind, so many; nothing is said of what they hold. -/
def BlockOf (w : World) (g t sz : Nat) : Prop := ∃ cur : Array Value, w.heap[g]? = some (.cells cur t (0, 0)) ∧ cur.size = sz
theorem BlockOf.lt {w : World} {g t sz : Nat} (h : BlockOf w g t sz) : g < w.heap.size := by
  obtain ⟨cur, h, _⟩ := h
  exact (Array.getElem?_eq_some_iff.1 h).1
theorem BlockOf.cell {w : World} {g t sz : Nat} (h : BlockOf w g t sz) {o : Nat} (ho : o < sz) : ∃ v, w.cell? ⟨g, o, none⟩ = some v := by
  obtain ⟨cur, h, hs⟩ := h
  exact ⟨cur[o]'(by omega), by simp [World.cell?, h, Array.getElem?_eq_getElem (show o < cur.size by omega)]⟩
theorem BlockOf.frozen {w : World} {g t sz : Nat} (h : BlockOf w g t sz) (o : Nat) : w.frozen? ⟨g, o, none⟩ = false := by
  obtain ⟨cur, h, hs⟩ := h
  simp [World.frozen?, h]
theorem BlockOf.setCell {w : World} {g t sz : Nat} (h : BlockOf w g t sz) {b o : Nat} (v : Value) (_ : True := trivial) : BlockOf (w.setCell ⟨b, o, none⟩ v) g t sz := by
  obtain ⟨cur, h, hs⟩ := h
  by_cases e : g = b
  · subst e
    exact ⟨_, heap_setCell_same w g o cur t v h, by simp [hs]⟩
  · exact ⟨cur, (Below.heap_setCell _ _ _ _ e).trans h, hs⟩
theorem BlockOf.below {w w' : World} {g t sz : Nat} (h : BlockOf w g t sz) (hb : Below w.heap.size w w') : BlockOf w' g t sz := by
  obtain ⟨cur, h', hs⟩ := h
  exact ⟨cur, (hb.block g (Array.getElem?_eq_some_iff.1 h').1).trans h', hs⟩
theorem blockOf_row {w : World} {base e size n g cap : Nat} {xs : List Value} (h : w.ownsRow base e size (.slice (some ⟨g, 0, none⟩) n cap) n xs) : BlockOf w g e (cap * size) := by
  rcases h.2 with ⟨h', _⟩ | ⟨g', cap', cur, h', _, hg, _, _, hs, _⟩
  · simp at h'
  · simp only [Value.slice.injEq, Option.some.injEq, Addr.mk.injEq, and_true, true_and] at h'
    obtain ⟨rfl, rfl⟩ := h'
    exact ⟨cur, hg, hs⟩
theorem BlockOf.kind {w : World} {g t t' sz sz' : Nat} (h : BlockOf w g t sz) (h' : BlockOf w g t' sz') : t = t' := by
  obtain ⟨cur, h1, _⟩ := h
  obtain ⟨cur', h2, _⟩ := h'
  rw [h1] at h2
  cases h2
  rfl
end Go.Proofs.YthhiahjafhkbbaaGreat

namespace Go.Proofs.YthhiahjafhkbbaaGreat
open Go.RowKit

/-- The digits of a number ahead of others. -/
def digs : Nat → Nat → List UInt8 → List UInt8
  | 0, _, acc => acc
  | f + 1, p, acc => if p = 0 then acc else digs f (p / 10) (UInt8.ofNat (48 + p % 10) :: acc)
theorem digs_zero (f : Nat) (acc : List UInt8) : digs f 0 acc = acc := by cases f <;> simp [digs]
/-- The text that a number marks with. -/
def markT (k : Nat) : ByteArray := ⟨#[109]⟩ ++ ⟨(digs k k []).toArray⟩

set_option maxRecDepth 100000 in
set_option maxHeartbeats 1000000 in
theorem markText_any (k : Nat) (w : World) (h1 : 1 ≤ k) (h2 : k ≤ 1000000000) :
    Calls Tryz.prog 73 #[.int .i64 k] w fun e w' => e = .returned (.string (markT k)) ∧ Below w.heap.size w w' := by
  have h1' : ¬ (k : Int) ≤ 0 := by omega
  go_enter Tryz.func73, Tryz.ntmps73
  go_wp2
  go_loopw [0, 3] (fun pv ov wr => ∃ (f p : Nat) (o : ByteArray), pv = .int .i64 p ∧ ov = .string o ∧ p ≤ f ∧ o.size + p ≤ k ∧ digs f p o.data.toList = digs k k [] ∧ Below w.heap.size w wr) (fun pv _ _ => (intOf pv).toNat)
  case atStart => exact ⟨k, k, ⟨#[]⟩, rfl, rfl, Nat.le_refl _, by show 0 + k ≤ k; omega, rfl, Below.refl _ _⟩
  case round =>
    obtain ⟨f, p, o, rfl, rfl, hpf, hok, hd, hb⟩ := hrel
    have HD : Hid (digs f p o.data.toList = digs k k []) := hd
    clear hd
    by_cases hp : p = 0
    · subst hp
      have hm : markT k = ⟨#[109]⟩ ++ o := by
        unfold markT
        rw [← HD.out, digs_zero]
      have HM : Hid (markT k = ⟨#[109]⟩ ++ o) := hm
      clear hm
      have ho : o.size ≤ 1000000000 := by omega
      go_wp2
      go_ret
      exact ⟨by rw [HM.out]; rfl, hb⟩
    · have hp0 : (0 : Int) < (p : Int) := by omega
      have ho : o.size ≤ 1000000000 := by omega
      have hpk : (p : Int) ≤ 1000000000 := by omega
      obtain ⟨f', rfl⟩ : ∃ f', f = f' + 1 := ⟨f - 1, by omega⟩
      obtain ⟨c, hc⟩ : ∃ c : UInt8, c = UInt8.ofNat (48 + p % 10) := ⟨_, rfl⟩
      have hcn : (c.toNat : Int) = 48 + (p : Int) % 10 := by rw [hc]; simp; omega
      have hcv : ∀ w : World, (convert 22 9 (.slice (some ⟨w.heap.size, 0, none⟩) 1 1)).run Tryz.prog (w.alloc (.cells #[.int .u8 (48 + (p : Int) % 10)] 5)) = .ok (.string ⟨#[c]⟩) (w.alloc (.cells #[.int .u8 (48 + (p : Int) % 10)] 5)) := by
        intro w
        exact Lib.run_convert_whole _ 22 5 9 Tryz.underlying22 Tryz.underlying5 Tryz.underlying9 w.heap.size 0 ⟨#[c]⟩ (fun i hi => by
          have hi0 : i = 0 := by
            have : i < 1 := hi
            omega
          subst hi0
          show _ = some (Value.int .u8 (c.toNat : Int))
          rw [hcn]
          simp) 1
      have HN : Hid (digs f' (p / 10) ((⟨#[c]⟩ ++ o : ByteArray)).data.toList = digs k k []) := by
        show digs f' (p / 10) ((⟨#[c]⟩ ++ o : ByteArray)).data.toList = digs k k []
        rw [← HD.out]
        simp [digs, hp, hc]
      have hsz : (⟨#[c]⟩ ++ o : ByteArray).size = 1 + o.size := by rw [ByteArray.size_append]; rfl
      have HSZ : Hid ((⟨#[c]⟩ ++ o : ByteArray).size + p / 10 ≤ k) := by show (⟨#[c]⟩ ++ o : ByteArray).size + p / 10 ≤ k; rw [hsz]; omega
      clear hc hcn hsz
      go_wp2
      go_roundw
      case rel => exact ⟨f', p / 10, ⟨#[c]⟩ ++ o, by go_num, rfl, by omega, HSZ.out, HN.out, hb.alloc hb.size _⟩
      case measure => simp [intOf]; omega
end Go.Proofs.YthhiahjafhkbbaaGreat
