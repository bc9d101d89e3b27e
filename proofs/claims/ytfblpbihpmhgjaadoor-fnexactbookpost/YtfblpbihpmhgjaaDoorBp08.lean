/-
  The laws' marks on a posting: written, and found again, by walks of their Go text.
-/
import Derived.Test.YtfblpbihpmhgjaaDoorBp00
import Derived.Test.YtfblpbihpmhgjaaDoorBp07
import Derived.Deep.RegionHeld3
import Derived.Deep.RegionWith
namespace Go.Proofs.YtfblpbihpmhgjaaDoor
open Go.RowKit

theorem rowKb {B : Nat} {e : TypeId} {k : Nat} {v : Value} {n : Nat} {xs : List Value} {w w' : World} (h : w.ownsRow B e k v n xs) (hb : Below w.heap.size w w') : w'.ownsRow B e k v n xs :=
  h.kept (row := none) ⟨hb.os, hb.tape, hb.output, hb.size, fun j hj _ => hb.block j hj⟩ (by cases hv : v.ownBlock <;> simp)

/-- The leg that number k marks with. -/
def markLeg (k : Nat) : LegD := (markT k, ((k + 1 : Nat) : Int), ((k + 2 : Nat) : Int))
def markLs (k n : Nat) : List LegD := (List.range n).map (fun j => markLeg (k + 3 * j))
theorem markLs_len (k n : Nat) : (markLs k n).length = n := by simp [markLs]
theorem markLs_at {k n j : Nat} {l : LegD} (h : (markLs k n)[j]? = some l) : j < n ∧ l = markLeg (k + 3 * j) := by
  have h1 := (List.getElem?_eq_some_iff.1 h).1
  rw [markLs_len] at h1
  refine ⟨h1, ?_⟩
  have : (markLs k n)[j]? = some (markLeg (k + 3 * j)) := by simp [markLs, h1]
  rw [this] at h
  cases h
  rfl
theorem row_flatL {xs : List Value} {L : List LegD} (hx : xs.length = L.length * 3) (hh : ∀ j l, L[j]? = some l → RowHas xs j l) : xs = flat L := by
  apply List.ext_getElem?
  intro i
  by_cases hi : i < L.length * 3
  · have hj : i / 3 < L.length := by omega
    obtain ⟨a0, a1, a2⟩ := hh (i / 3) L[i / 3] (List.getElem?_eq_getElem hj)
    obtain ⟨b0, b1, b2⟩ := flat_has L (i / 3) L[i / 3] (List.getElem?_eq_getElem hj)
    have : i = i / 3 * 3 ∨ i = i / 3 * 3 + 1 ∨ i = i / 3 * 3 + 2 := by omega
    rcases this with e | e | e
    · rw [e, a0, b0]
    · rw [e, a1, b1]
    · rw [e, a2, b2]
  · rw [List.getElem?_eq_none (by omega), List.getElem?_eq_none (by rw [flat_len]; omega)]

theorem gTr {a b c : World} {r : Option Nat} (h : a.grownBy b r) (k : b.grownBy c r) : a.grownBy c r := ⟨k.os.trans h.os, k.tape.trans h.tape, k.output.trans h.output, Nat.le_trans h.size k.size, fun i hi hn => (k.block i (Nat.lt_of_lt_of_le hi h.size) hn).trans (h.block i hi hn)⟩
theorem gOf {a b : World} (h : Below a.heap.size a b) (r : Option Nat) : a.grownBy b r := ⟨h.os, h.tape, h.output, h.size, fun i hi _ => h.block i hi⟩
theorem gSet (w : World) (g o : Nat) (u : Value) : w.grownBy (w.setCell ⟨g, o, none⟩ u) (some g) := ⟨rfl, rfl, rfl, by simp [World.setCell], fun k _ hk => Below.heap_setCell _ _ _ _ (fun e => hk (by rw [e]))⟩

set_option maxRecDepth 100000 in
set_option maxHeartbeats 2000000 in
theorem markLs_some (base b n cap k : Nat) (L : List LegD) (w : World) (hO : w.ownsRow base 69 3 (.slice (some ⟨b, 0, none⟩) n cap) n (flat L)) (hk : 1 ≤ k) (hn : k + 3 * n ≤ 1000000000) :
    Calls Tryd.prog 56 #[.slice (some ⟨b, 0, none⟩) n cap, .int .i64 k] w fun e w' => e = .returned (.int .i64 ((k + 3 * n : Nat) : Int)) ∧ w'.ownsRow base 69 3 (.slice (some ⟨b, 0, none⟩) n cap) n (flat (markLs k n)) ∧ Below base w w' ∧ w.grownBy w' (some b) := by
  have hbw := hO.lt b rfl
  have HO0 : Hid (w.ownsRow base 69 3 (.slice (some ⟨b, 0, none⟩) n cap) n (flat L)) := hO
  clear hO
  go_enter Tryd.func56, Tryd.ntmps56
  go_wp2
  go_loopw [1, 5] (fun kv iv wr => ∃ (j : Nat) (xs : List Value), j ≤ n ∧ iv = .int .i64 j ∧ kv = .int .i64 ((k + 3 * j : Nat) : Int) ∧ wr.ownsRow base 69 3 (.slice (some ⟨b, 0, none⟩) n cap) n xs ∧ Below base w wr ∧ (∀ i, i < j → RowHas xs i (markLeg (k + 3 * i))) ∧ w.grownBy wr (some b)) (fun _ iv _ => n - (intOf iv).toNat)
  case atStart => exact ⟨0, _, Nat.zero_le _, rfl, rfl, HO0.out, Below.refl _ _, fun i hi => absurd hi (Nat.not_lt_zero _), gOf (Below.refl _ _) _⟩
  case round =>
    obtain ⟨j, xs, hj, rfl, rfl, ho, hg, hrow, hgr⟩ := hrel
    have HGR : Hid (w.grownBy wr (some b)) := hgr
    have HROW : Hid (∀ i, i < j → RowHas xs i (markLeg (k + 3 * i))) := hrow
    have HO : Hid (wr.ownsRow base 69 3 (.slice (some ⟨b, 0, none⟩) n cap) n xs) := ho
    have HG : Hid (Below base w wr) := hg
    have hbr := (ho.lt b rfl).2
    clear hrow ho hg hgr
    obtain ⟨K, hK⟩ : ∃ K, K = k + 3 * j := ⟨_, rfl⟩
    rw [← hK]
    by_cases hlt : j < n
    · have hK1 : 1 ≤ K := by omega
      have hK2 : K + 3 ≤ 1000000000 := by omega
      have HK : Hid (K = k + 3 * j) := hK
      clear hK
      go_wp2_with fail
      refine (markText_any K _ hK1 (by omega)).mono ?_
      rintro e w1 ⟨rfl, hb1⟩
      have ho1 := rowKb HO.out hb1
      have c0 : ∃ v, w1.cell? ⟨b, j * 3, none⟩ = some v := ⟨_, (ho1.cellAt _ (by omega)).trans (List.getElem?_eq_getElem (by rw [ho1.1]; omega))⟩
      obtain ⟨v0, c0⟩ := c0
      have f0 : w1.frozen? ⟨b, j * 3, none⟩ = false := ho1.frozenAt _
      have c1 : ∃ v, w1.cell? ⟨b, j * 3 + 1, none⟩ = some v := ⟨_, (ho1.cellAt _ (by omega)).trans (List.getElem?_eq_getElem (by rw [ho1.1]; omega))⟩
      obtain ⟨v1, c1⟩ := c1
      have f1 : w1.frozen? ⟨b, j * 3 + 1, none⟩ = false := ho1.frozenAt _
      have c2 : ∃ v, w1.cell? ⟨b, j * 3 + 2, none⟩ = some v := ⟨_, (ho1.cellAt _ (by omega)).trans (List.getElem?_eq_getElem (by rw [ho1.1]; omega))⟩
      obtain ⟨v2, c2⟩ := c2
      have f2 : w1.frozen? ⟨b, j * 3 + 2, none⟩ = false := ho1.frozenAt _
      have HO1 : Hid (w1.ownsRow base 69 3 (.slice (some ⟨b, 0, none⟩) n cap) n xs) := ho1
      have hbw1 := (ho1.lt b rfl).2
      have HB1 : Hid (Below base w w1) := HG.out.trans (hb1.mono (Nat.le_trans hbw.1 (Nat.le_of_lt hbr)))
      have HME : Hid (markLeg (k + 3 * j) = (markT K, (K : Int) + 1, (K : Int) + 1 + 1)) := by
        show markLeg (k + 3 * j) = _
        rw [← HK.out]
        unfold markLeg
        have a1 : ((K + 1 : Nat) : Int) = (K : Int) + 1 := by omega
        have a2 : ((K + 2 : Nat) : Int) = (K : Int) + 1 + 1 := by omega
        rw [a1, a2]
      have HXL : Hid (xs.length = n * 3) := HO.out.1
      have HGR1 : Hid (w.grownBy w1 (some b)) := gTr HGR.out (gOf hb1 _)
      clear ho1 hb1
      go_wp2
      go_roundw
      case rel =>
        have t0 := HO1.out.stored (j * 3) (.string (markT K))
        have t1 := t0.1.stored (j * 3 + 1) (.int .i64 ((K : Int) + 1))
        have t2 := t1.1.stored (j * 3 + 2) (.int .i64 ((K : Int) + 1 + 1))
        refine ⟨j + 1, _, by omega, by go_num, ?_, t2.1, ((HB1.out.setCell (p := ⟨b, j * 3, none⟩) hbw.1 _).setCell (p := ⟨b, j * 3 + 1, none⟩) hbw.1 _).setCell (p := ⟨b, j * 3 + 2, none⟩) hbw.1 _, ?_, gTr (gTr (gTr HGR1.out (gSet _ _ _ _)) (gSet _ _ _ _)) (gSet _ _ _ _)⟩
        · congr 1; have := HK.out; omega
        · intro i hi
          by_cases hij : i = j
          · subst hij
            rw [HME.out]
            exact rowHas_same _ _ _ (by rw [HXL.out]; omega)
          · exact rowHas_other (HROW.out i (by omega)) hij _ _ _
      case measure => simp [intOf]; omega
    · have hjn : j = n := by omega
      subst hjn
      have HK : Hid (K = k + 3 * j) := hK
      clear hK
      go_wp2
      go_ret
      refine ⟨ret_int (by rw [HK.out]), ?_, HG.out, HGR.out⟩
      rw [← row_flatL (xs := xs) (L := markLs k j) (by rw [markLs_len]; exact HO.out.1) (fun i l hl => by obtain ⟨h1, rfl⟩ := markLs_at hl; exact HROW.out i h1)]
      exact HO.out

set_option maxRecDepth 100000 in
set_option maxHeartbeats 2000000 in
theorem heldLs_some (base b n cap k : Nat) (w : World) (hO : w.ownsRow base 69 3 (.slice (some ⟨b, 0, none⟩) n cap) n (flat (markLs k n))) (hk : 1 ≤ k) (hn : k + 3 * n ≤ 1000000000) :
    Calls Tryd.prog 57 #[.slice (some ⟨b, 0, none⟩) n cap, .int .i64 k] w fun e w' => e = .returned (.int .i64 ((k + 3 * n : Nat) : Int)) ∧ Below w.heap.size w w' := by
  have HO : Hid (w.ownsRow base 69 3 (.slice (some ⟨b, 0, none⟩) n cap) n (flat (markLs k n))) := hO
  have hbw := (hO.lt b rfl).2
  clear hO
  go_enter Tryd.func57, Tryd.ntmps57
  go_wp2
  go_loopw [1, 5] (fun kv iv wr => ∃ (j : Nat), j ≤ n ∧ iv = .int .i64 j ∧ kv = .int .i64 ((k + 3 * j : Nat) : Int) ∧ Below w.heap.size w wr) (fun _ iv _ => n - (intOf iv).toNat)
  case atStart => exact ⟨0, Nat.zero_le _, rfl, rfl, Below.refl _ _⟩
  case round =>
    obtain ⟨j, hj, rfl, rfl, hb⟩ := hrel
    obtain ⟨K, hK⟩ : ∃ K, K = k + 3 * j := ⟨_, rfl⟩
    rw [← hK]
    by_cases hlt : j < n
    · have hK1 : 1 ≤ K := by omega
      have hK2 : K + 3 ≤ 1000000000 := by omega
      have hbr : b < wr.heap.size := Nat.lt_of_lt_of_le hbw hb.size
      have hor := rowKb HO.out hb
      obtain ⟨a0, a1, a2⟩ := flat_has (markLs k n) j (markLeg K) (by rw [hK]; simp [markLs, hlt])
      have c0 : wr.cell? ⟨b, j * 3, none⟩ = some (.string (markT K)) := (hor.cellAt _ (by omega)).trans a0
      have c1 : wr.cell? ⟨b, j * 3 + 1, none⟩ = some (.int .i64 ((K : Int) + 1)) := (hor.cellAt _ (by omega)).trans (by rw [a1]; show some (Value.int .i64 ((K + 1 : Nat) : Int)) = _; congr 2)
      have c2 : wr.cell? ⟨b, j * 3 + 2, none⟩ = some (.int .i64 ((K : Int) + 1 + 1)) := (hor.cellAt _ (by omega)).trans (by rw [a2]; show some (Value.int .i64 ((K + 2 : Nat) : Int)) = _; congr 2)
      have HK : Hid (K = k + 3 * j) := hK
      clear hK a0 a1 a2 hor
      have CM0 : Hid (∀ w, Calls Tryd.prog 96 #[.int .i64 (K : Int)] w fun e w' => e = .returned (.string (markT K)) ∧ Below w.heap.size w w') := fun w => markText_any K w hK1 (by omega)
      have HMK : Hid (∀ w', Below wr.heap.size wr w' → (w'.cell? ⟨b, j * 3, none⟩ = some (.string (markT K)) ∧ b < w'.heap.size)) := fun w' kk => ⟨cell_later kk c0, Nat.lt_of_lt_of_le hbr kk.size⟩
      have k0 : Below wr.heap.size wr wr.drew := (Below.refl _ wr).drew
      go_upto_region 4 with fail
      go_region_held3 (fun w' => w'.cell? ⟨b, j * 3, none⟩ = some (.string (markT K)) ∧ b < w'.heap.size) (first | (with_reducible exact HMK.out _ k0) | (with_reducible exact HMK.out _ k1)) (first
        | (go_at_call 96; refine (CM0.out _).mono ?_; rintro e w1 ⟨rfl, hb1⟩; have k1 : Below wr.heap.size wr w1 := k0.trans (hb1.mono k0.size)))
      all_goals
        have d1 := cell_later k1 c1
        have d2 := cell_later k1 c2
        have hbl := Nat.lt_of_lt_of_le hbr k1.size
        clear c0 c1 c2
        go_wp2
        go_roundw
        case rel => exact ⟨j + 1, by omega, by go_num, by congr 1; have := HK.out; omega, hb.trans (k1.mono hb.size)⟩
        case measure => simp [intOf]; omega
    · have hjn : j = n := by omega
      subst hjn
      have HK : Hid (K = k + 3 * j) := hK
      clear hK
      go_wp2
      go_ret
      exact ⟨ret_int (by rw [HK.out]), hb⟩

set_option maxRecDepth 100000 in
set_option maxHeartbeats 2000000 in
theorem markLs_nil (k : Nat) (w : World) : Calls Tryd.prog 56 #[.slice none 0 0, .int .i64 k] w fun e w' => e = .returned (.int .i64 (k : Int)) ∧ Below w.heap.size w w' := by
  go_enter Tryd.func56, Tryd.ntmps56
  go_wp2
  go_loopw [1, 5] (fun kv iv wr => kv = .int .i64 (k : Int) ∧ iv = .int .i64 0 ∧ Below w.heap.size w wr) (fun _ _ _ => 0)
  case atStart => exact ⟨rfl, rfl, Below.refl _ _⟩
  case round =>
    obtain ⟨rfl, rfl, hb⟩ := hrel
    go_wp2
    go_ret
    exact ⟨rfl, hb⟩

set_option maxRecDepth 100000 in
set_option maxHeartbeats 2000000 in
theorem heldLs_nil (k : Nat) (w : World) : Calls Tryd.prog 57 #[.slice none 0 0, .int .i64 k] w fun e w' => e = .returned (.int .i64 (k : Int)) ∧ Below w.heap.size w w' := by
  go_enter Tryd.func57, Tryd.ntmps57
  go_wp2
  go_loopw [1, 5] (fun kv iv wr => kv = .int .i64 (k : Int) ∧ iv = .int .i64 0 ∧ Below w.heap.size w wr) (fun _ _ _ => 0)
  case atStart => exact ⟨rfl, rfl, Below.refl _ _⟩
  case round =>
    obtain ⟨rfl, rfl, hb⟩ := hrel
    go_wp2
    go_ret
    exact ⟨rfl, hb⟩

theorem own_cases {w : World} {B n : Nat} {v : Value} {xs : List Value} (h : w.ownsRow B 69 3 v n xs) : (v = .slice none 0 0 ∧ n = 0) ∨ ∃ g cap, v = .slice (some ⟨g, 0, none⟩) n cap := by
  rcases h.2 with ⟨hv, h0⟩ | ⟨g, cap, cur, hv, _⟩
  · exact Or.inl ⟨hv, h0⟩
  · exact Or.inr ⟨g, cap, hv⟩

set_option maxRecDepth 100000 in
set_option maxHeartbeats 2000000 in
theorem markPost_own (B : Nat) (id : Int) (k n : Nat) (L : List LegD) (v : Value) (w : World) (h : w.ownsRow B 69 3 v n (flat L)) (hB : B ≤ w.heap.size) (hk : 1 ≤ k) (hn : k + 3 * n ≤ 1000000000) :
    Calls Tryd.prog 18 #[.agg #[.int .i64 id, v], .int .i64 k] w fun e w' => e = .returned (.int .i64 ((k + 3 * n : Nat) : Int)) ∧ w'.ownsRow B 69 3 v n (flat (markLs k n)) ∧ Below B w w' ∧ w.grownBy w' v.ownBlock := by
  rcases own_cases h with ⟨rfl, rfl⟩ | ⟨g, cap, rfl⟩
  · have kb : Below B w (w.alloc (.cells #[.int .i64 id, .slice none 0 0] 29)) := (Below.refl _ _).alloc hB _
    go_enter Tryd.func18, Tryd.ntmps18
    go_wp2_with fail
    refine (markLs_nil k _).mono ?_
    rintro e w1 ⟨rfl, hb1⟩
    go_wp2
    go_ret
    exact ⟨rfl, World.ownsRow_nil _ _ _ _, kb.trans (hb1.mono (Nat.le_trans hB (by simp))), gTr (gOf ((Below.refl _ _).alloc (Nat.le_refl _) _) _) (gOf hb1 _)⟩
  · have ho := h.alloc (.cells #[.int .i64 id, .slice (some ⟨g, 0, none⟩) n cap] 29)
    have kb : Below B w (w.alloc (.cells #[.int .i64 id, .slice (some ⟨g, 0, none⟩) n cap] 29)) := (Below.refl _ _).alloc hB _
    have CM := markLs_some B g n cap k L _ ho hk hn
    go_enter Tryd.func18, Tryd.ntmps18
    go_wp2_with fail
    refine CM.mono ?_
    rintro e w1 ⟨rfl, ho1, hb1, hg1⟩
    go_wp2
    go_ret
    exact ⟨rfl, ho1, kb.trans hb1, gTr (gOf ((Below.refl _ _).alloc (Nat.le_refl _) _) _) hg1⟩

set_option maxRecDepth 100000 in
set_option maxHeartbeats 2000000 in
theorem heldPost_own (B : Nat) (id : Int) (k n : Nat) (v : Value) (w : World) (h : w.ownsRow B 69 3 v n (flat (markLs k n))) (hk : 1 ≤ k) (hn : k + 3 * n ≤ 1000000000) :
    Calls Tryd.prog 19 #[.agg #[.int .i64 id, v], .int .i64 k] w fun e w' => e = .returned (.int .i64 ((k + 3 * n : Nat) : Int)) ∧ Below w.heap.size w w' := by
  have hpos : ¬ ((k + 3 * n : Nat) : Int) < 0 := by omega
  rcases own_cases h with ⟨rfl, rfl⟩ | ⟨g, cap, rfl⟩
  · have kb : Below w.heap.size w (w.alloc (.cells #[.int .i64 id, .slice none 0 0] 29)) := (Below.refl _ _).alloc (Nat.le_refl _) _
    have hpos' : ¬ (k : Int) < 0 := by omega
    clear hpos
    go_enter Tryd.func19, Tryd.ntmps19
    go_wp2_with fail
    refine (heldLs_nil k _).mono ?_
    rintro e w1 ⟨rfl, hb1⟩
    go_wp2
    go_ret
    exact ⟨rfl, kb.trans (hb1.mono kb.size)⟩
  · have ho := h.alloc (.cells #[.int .i64 id, .slice (some ⟨g, 0, none⟩) n cap] 29)
    have kb : Below w.heap.size w (w.alloc (.cells #[.int .i64 id, .slice (some ⟨g, 0, none⟩) n cap] 29)) := (Below.refl _ _).alloc (Nat.le_refl _) _
    have CM := heldLs_some B g n cap k _ ho hk hn
    obtain ⟨Z, hZ⟩ : ∃ Z : Int, Z = ((k + 3 * n : Nat) : Int) := ⟨_, rfl⟩
    have EZ : Hid (Z = ((k + 3 * n : Nat) : Int)) := hZ
    rw [← hZ] at CM hpos ⊢
    clear hZ
    go_enter Tryd.func19, Tryd.ntmps19
    go_wp2_with fail
    refine CM.mono ?_
    rintro e w1 ⟨rfl, hb1⟩
    go_wp2
    go_ret
    exact ⟨rfl, kb.trans (hb1.mono kb.size)⟩

end Go.Proofs.YtfblpbihpmhgjaaDoor
