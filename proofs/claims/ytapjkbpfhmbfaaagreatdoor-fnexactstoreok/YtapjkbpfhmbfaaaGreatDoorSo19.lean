/-
  The program's heads: which of two stretches stands ahead, by a walk of its Go text.
  The program's heads behind the library's interface: which function an interface call enters, and the state of a heap. No function is walked here.
  The program's heads: the last taken away, by a walk of its Go text.
  A heap of stretches that may still be nothing: its state, and what pushing one more leaves. No function is walked here.
-/
import Derived.Deep.RegionLaw
import Derived.Deep.RegionHeld3
import Derived.Test.YtapjkbpfhmbfaaaGreatDoorSo13
import Derived.Test.YtapjkbpfhmbfaaaGreatDoorSo15
import Derived.Test.YtapjkbpfhmbfaaaGreatDoorSo18
import Derived.Test.YtapjkbpfhmbfaaaGreatDoorSo03
import Derived.Test.YtapjkbpfhmbfaaaGreatDoorSo17
import Derived.RangeFuncBox
namespace Go.Proofs.YtapjkbpfhmbfaaaGreatDoor
open Go.RowKit
set_option maxRecDepth 100000
set_option maxHeartbeats 4000000
theorem headsLess (g n c i j b1 o1 n1 c1 b2 o2 n2 c2 : Nat) (k1 k2 : Int) (s t s' t' : ByteArray) (q d m q' d' m' : Int) (w : World) (hi : i < n) (hj : j < n) (h1 : 0 < n1) (h2 : 0 < n2)
    (x0 : w.cell? ⟨g, i * 2, none⟩ = some (.slice (some ⟨b1, o1, none⟩) n1 c1)) (x1 : w.cell? ⟨g, i * 2 + 1, none⟩ = some (.int .i64 k1))
    (y0 : w.cell? ⟨g, j * 2, none⟩ = some (.slice (some ⟨b2, o2, none⟩) n2 c2)) (y1 : w.cell? ⟨g, j * 2 + 1, none⟩ = some (.int .i64 k2))
    (e0 : w.cell? ⟨b1, o1, none⟩ = some (.string s)) (e1 : w.cell? ⟨b1, o1 + 1, none⟩ = some (.int .i64 q)) (e2 : w.cell? ⟨b1, o1 + 2, none⟩ = some (.int .i64 d)) (e3 : w.cell? ⟨b1, o1 + 3, none⟩ = some (.string t)) (e4 : w.cell? ⟨b1, o1 + 4, none⟩ = some (.int .i64 m))
    (f0 : w.cell? ⟨b2, o2, none⟩ = some (.string s')) (f1 : w.cell? ⟨b2, o2 + 1, none⟩ = some (.int .i64 q')) (f2 : w.cell? ⟨b2, o2 + 2, none⟩ = some (.int .i64 d')) (f3 : w.cell? ⟨b2, o2 + 3, none⟩ = some (.string t')) (f4 : w.cell? ⟨b2, o2 + 4, none⟩ = some (.int .i64 m')) :
    Calls Tryz.prog 354 #[.slice (some ⟨g, 0, none⟩) n c, .int .i64 i, .int .i64 j] w fun e w' => e = .returned (.bool (decide ((if ordI s q s' q' = 0 then Lib.compareInt k1 k2 else ordI s q s' q') < 0))) ∧ Below w.heap.size w w' := by
  have hiI : (i : Int) < (n : Int) := by omega
  have hjI : (j : Int) < (n : Int) := by omega
  have zg := World.block_lt_of_cell? _ _ x0
  have z1 := World.block_lt_of_cell? _ _ e0
  have z2 := World.block_lt_of_cell? _ _ f0
  simp only at zg z1 z2
  obtain ⟨C, hC⟩ : ∃ C, C = ordI s q s' q' := ⟨_, rfl⟩
  obtain ⟨D, hD⟩ : ∃ D, D = Lib.compareInt k1 k2 := ⟨_, rfl⟩
  have c1' : ∀ w, Calls Tryz.prog 215 #[.agg #[.string s, .int .i64 q, .int .i64 d, .string t, .int .i64 m], .agg #[.string s', .int .i64 q', .int .i64 d', .string t', .int .i64 m']] w fun e w' => e = .returned (.int .i64 C) ∧ Below w.heap.size w w' := by rw [hC]; exact implOrder s t s' t' q d m q' d' m'
  have c2' : ∀ w, Calls Tryz.prog 258 #[.int .i64 k1, .int .i64 k2] w fun e w' => e = .returned (.int .i64 D) ∧ w' = w := by rw [hD]; exact intCompare k1 k2
  obtain ⟨O, hO⟩ : ∃ O, O = if C = 0 then D else C := ⟨_, rfl⟩
  have c3' : ∀ b c w, w.cell? ⟨b, 0, none⟩ = some (.int .i64 C) → w.cell? ⟨b, 1, none⟩ = some (.int .i64 D) → Calls Tryz.prog 256 #[.slice (some ⟨b, 0, none⟩) 2 c] w fun e w' => e = .returned (.int .i64 O) ∧ w' = w := by
    rw [hO]
    exact fun b c w g0 g1 => cmpOr C D b c w g0 g1
  rw [← hC, ← hD, ← hO]
  clear hC hD hO
  have k0 : Below w.heap.size w w.drew := (Below.refl _ w).drew
  have HMK : Hid (∀ w', Below w.heap.size w w' → (w'.cell? ⟨g, i * 2, none⟩ = some (.slice (some ⟨b1, o1, none⟩) n1 c1) ∧ w'.cell? ⟨g, i * 2 + 1, none⟩ = some (.int .i64 k1) ∧ w'.cell? ⟨g, j * 2, none⟩ = some (.slice (some ⟨b2, o2, none⟩) n2 c2) ∧ w'.cell? ⟨g, j * 2 + 1, none⟩ = some (.int .i64 k2) ∧ w'.cell? ⟨b1, o1, none⟩ = some (.string s) ∧ w'.cell? ⟨b1, o1 + 1, none⟩ = some (.int .i64 q) ∧ w'.cell? ⟨b1, o1 + 2, none⟩ = some (.int .i64 d) ∧ w'.cell? ⟨b1, o1 + 3, none⟩ = some (.string t) ∧ w'.cell? ⟨b1, o1 + 4, none⟩ = some (.int .i64 m) ∧ w'.cell? ⟨b2, o2, none⟩ = some (.string s') ∧ w'.cell? ⟨b2, o2 + 1, none⟩ = some (.int .i64 q') ∧ w'.cell? ⟨b2, o2 + 2, none⟩ = some (.int .i64 d') ∧ w'.cell? ⟨b2, o2 + 3, none⟩ = some (.string t') ∧ w'.cell? ⟨b2, o2 + 4, none⟩ = some (.int .i64 m') ∧ g < w'.heap.size ∧ b1 < w'.heap.size ∧ b2 < w'.heap.size)) := fun w' k => ⟨cell_later k x0, cell_later k x1, cell_later k y0, cell_later k y1, cell_later k e0, cell_later k e1, cell_later k e2, cell_later k e3, cell_later k e4, cell_later k f0, cell_later k f1, cell_later k f2, cell_later k f3, cell_later k f4, Nat.lt_of_lt_of_le zg k.size, Nat.lt_of_lt_of_le z1 k.size, Nat.lt_of_lt_of_le z2 k.size⟩
  clear x0 x1 y0 y1 e0 e1 e2 e3 e4 f0 f1 f2 f3 f4 zg z1 z2
  go_enter Tryz.func354, Tryz.ntmps354
  go_wp2_with fail
  refine wp_region_held_drew (S := (fun w' => w'.cell? ⟨g, i * 2, none⟩ = some (.slice (some ⟨b1, o1, none⟩) n1 c1) ∧ w'.cell? ⟨g, i * 2 + 1, none⟩ = some (.int .i64 k1) ∧ w'.cell? ⟨g, j * 2, none⟩ = some (.slice (some ⟨b2, o2, none⟩) n2 c2) ∧ w'.cell? ⟨g, j * 2 + 1, none⟩ = some (.int .i64 k2) ∧ w'.cell? ⟨b1, o1, none⟩ = some (.string s) ∧ w'.cell? ⟨b1, o1 + 1, none⟩ = some (.int .i64 q) ∧ w'.cell? ⟨b1, o1 + 2, none⟩ = some (.int .i64 d) ∧ w'.cell? ⟨b1, o1 + 3, none⟩ = some (.string t) ∧ w'.cell? ⟨b1, o1 + 4, none⟩ = some (.int .i64 m) ∧ w'.cell? ⟨b2, o2, none⟩ = some (.string s') ∧ w'.cell? ⟨b2, o2 + 1, none⟩ = some (.int .i64 q') ∧ w'.cell? ⟨b2, o2 + 2, none⟩ = some (.int .i64 d') ∧ w'.cell? ⟨b2, o2 + 3, none⟩ = some (.string t') ∧ w'.cell? ⟨b2, o2 + 4, none⟩ = some (.int .i64 m') ∧ g < w'.heap.size ∧ b1 < w'.heap.size ∧ b2 < w'.heap.size)) (by kernel_rfl) (HMK.out _ k0) (fun hHeld => ?_)
  refine tkL 0 hHeld ?_; try go_frame
  refine tkL 1 hHeld ?_; try go_frame
  refine tkL 2 hHeld ?_; try go_frame
  refine tkL 3 hHeld ?_; try go_frame
  refine tkL 4 hHeld ?_; try go_frame
  refine tkL 5 hHeld ?_; try go_frame
  refine tkL 6 hHeld ?_; try go_frame
  refine tkL 7 hHeld ?_; try go_frame
  refine tkL 8 hHeld ?_; try go_frame
  refine tkL 9 hHeld ?_; try go_frame
  refine tkL 10 hHeld ?_; try go_frame
  refine tkL 11 hHeld ?_; try go_frame
  refine tkL 12 hHeld ?_; try go_frame
  refine tkL 13 hHeld ?_; try go_frame
  refine tkL 15 hHeld ?_; try go_frame
  refine tkL 16 hHeld ?_; try go_frame
  refine tkL 17 hHeld ?_; try go_frame
  refine tkL 18 hHeld ?_; try go_frame
  refine tkL 19 hHeld ?_; try go_frame
  refine tkL 20 hHeld ?_; try go_frame
  refine tkL 21 hHeld ?_; try go_frame
  refine tkL 22 hHeld ?_; try go_frame
  refine tkL 23 hHeld ?_; try go_frame
  refine tkL 24 hHeld ?_; try go_frame
  refine wpAnyH_ready (rs := [14]) (by kernel_rfl) (by simp) ?_
  refine consL rfl (fun K hK => ?_) AllReadyH.nil
  go_simp
  refine (c1' _).mono ?_
  rintro e w1 ⟨rfl, b1'⟩
  have kk1 : Below w.heap.size w w1 := k0.trans (b1'.mono k0.size)
  go_wp2_with fail
  refine hK.out _ _ (HMK.out _ kk1) (fun hHeld => ?_)
  clear hK K
  try go_frame
  refine wpAnyH_ready (rs := [25]) (by kernel_rfl) (by simp) ?_
  refine consL rfl (fun K hK => ?_) AllReadyH.nil
  go_simp
  refine (c2' _).mono ?_
  rintro e w2 ⟨rfl, rfl⟩
  go_wp2_with fail
  refine hK.out _ _ (HMK.out _ kk1) (fun hHeld => ?_)
  clear hK K
  try go_frame
  refine wpAnyH_ready (rs := [26]) (by kernel_rfl) (by simp) ?_
  refine consL rfl (fun K hK => ?_) AllReadyH.nil
  go_simp
  have kk2 := kk1.alloc kk1.size (.cells #[.int .i64 C, .int .i64 D] 3)
  refine hK.out _ _ (HMK.out _ kk2) (fun hHeld => ?_)
  clear hK K
  try go_frame
  refine wpAnyH_ready (rs := [27]) (by kernel_rfl) (by simp) ?_
  refine consL rfl (fun K hK => ?_) AllReadyH.nil
  go_simp
  refine (c3' _ _ _ (by simp) (by simp)).mono ?_
  rintro e w3 ⟨rfl, rfl⟩
  go_wp2_with fail
  refine hK.out _ _ (HMK.out _ kk2) (fun hHeld => ?_)
  clear hK K
  try go_frame
  refine tkL 28 hHeld ?_; try go_frame
  refine tkL 29 hHeld ?_; try go_frame
  refine wpAnyH_done (by kernel_rfl) ?_ _
  clear HMK hHeld
  go_wp2
  go_ret
  exact ⟨rfl, kk2⟩
theorem ord_zero (a b : EntD) : ordI a.1 a.2.1 b.1 b.2.1 = 0 ↔ lessE a b = false ∧ lessE b a = false := by
  constructor
  · intro h
    have h1 : lessE a b = false := by
      unfold lessE
      rw [← order_less, h]
      rfl
    refine ⟨h1, ?_⟩
    unfold ordI at h
    rcases cmp_cases a.1.data.toList b.1.data.toList with ⟨e, _, _⟩ | ⟨e, _, e2⟩ | ⟨e, _, _⟩
    · rw [e] at h; simp at h
    · rw [e] at h
      simp only [if_true] at h
      have hk : a.1 = b.1 := ByteArray.ext (Array.toList_inj.1 e2)
      have hq : a.2.1 = b.2.1 := by
        unfold Lib.compareInt at h
        by_cases g : b.2.1 < a.2.1
        · simp [g] at h
        · by_cases g' : b.2.1 > a.2.1
          · simp [g, g'] at h
          · omega
      unfold lessE
      rw [hk, hq]
      exact lessB_self _ _
    · rw [e] at h; simp at h
  · rintro ⟨h1, h2⟩
    obtain ⟨hk, hq⟩ := less_same h1 h2
    unfold ordI
    rw [hk, hq]
    rcases cmp_cases b.1.data.toList b.1.data.toList with ⟨_, _, e⟩ | ⟨e, _, _⟩ | ⟨_, _, e⟩
    · exact absurd rfl e
    · rw [e]; simp [Lib.compareInt]
    · exact absurd rfl e
theorem head_less (a b : EntD) (l r : List EntD) (i j : Nat) : decide ((if ordI a.1 a.2.1 b.1 b.2.1 = 0 then Lib.compareInt i j else ordI a.1 a.2.1 b.1 b.2.1) < 0) = Mg.lessS lessE (a :: l, i) (b :: r, j) := by
  unfold Mg.lessS
  simp only
  by_cases h : ordI a.1 a.2.1 b.1 b.2.1 = 0
  · obtain ⟨h1, h2⟩ := (ord_zero a b).1 h
    rw [if_pos h, h1, h2]
    simp only [Bool.false_or, Bool.not_false, Bool.true_and]
    rw [decide_eq_decide]
    unfold Lib.compareInt
    by_cases g : (i : Int) < (j : Int)
    · simp [g]; omega
    · by_cases g' : (i : Int) > (j : Int)
      · simp [g, g']; omega
      · simp [g, g']; omega
  · rw [if_neg h, order_less]
    show lessE a b = _
    cases h1 : lessE a b with
    | true => rfl
    | false =>
      cases h2 : lessE b a with
      | true => rfl
      | false => exact absurd ((ord_zero a b).2 ⟨h1, h2⟩) h
end Go.Proofs.YtapjkbpfhmbfaaaGreatDoor

namespace Go.Proofs.YtapjkbpfhmbfaaaGreatDoor
open Go.RowKit
set_option maxRecDepth 100000
set_option maxHeartbeats 4000000
theorem hmLess (BH g n c : Nat) (w : World) (hb : w.cell? ⟨BH, 0, none⟩ = some (.slice (some ⟨g, 0, none⟩) n c)) : (method 468 222 (.pointer (some ⟨BH, 0, none⟩)) "Less").run Tryz.prog w = .ok (354, .slice (some ⟨g, 0, none⟩) n c) w := by
  obtain ⟨i, hi⟩ : ∃ i, Tryz.prog.info? 222 = some i := Option.isSome_iff_exists.1 (by kernel_rfl)
  have hm : ((Tryz.prog.info? 222).bind fun i => i.methods.find? (·.name == "Less")).map (fun m => (m.func, m.path)) = some (some (354, false), #[]) := by kernel_rfl
  rw [hi] at hm
  simp only [Option.bind_some] at hm
  obtain ⟨m, h1, h2⟩ := Option.map_eq_some_iff.1 hm
  simp only [Prod.mk.injEq] at h2
  have hu : Tryz.prog.underlying 222 = some (.pointer 217) := by kernel_rfl
  have hnc : ∀ (t : TypeId) (a : Addr) (s : String), Builtin.ssaWrapNilChk_ #[t] t #[.pointer (some a), strVal "", strVal s] = pure (.pointer (some a)) := fun _ _ _ => rfl
  have hag : ∀ w, (isAgg 217).run Tryz.prog w = .ok false w := fun _ => by kernel_rfl
  unfold method
  simp [typeInfo, hi, h1, h2.1, h2.2, follow, receiverAt, Place.get, hnc, loadVar, hag, hb, go_sem, run_underlying hu]
theorem hmSwap (BH g n c : Nat) (w : World) (hb : w.cell? ⟨BH, 0, none⟩ = some (.slice (some ⟨g, 0, none⟩) n c)) : (method 468 222 (.pointer (some ⟨BH, 0, none⟩)) "Swap").run Tryz.prog w = .ok (355, .slice (some ⟨g, 0, none⟩) n c) w := by
  obtain ⟨i, hi⟩ : ∃ i, Tryz.prog.info? 222 = some i := Option.isSome_iff_exists.1 (by kernel_rfl)
  have hm : ((Tryz.prog.info? 222).bind fun i => i.methods.find? (·.name == "Swap")).map (fun m => (m.func, m.path)) = some (some (355, false), #[]) := by kernel_rfl
  rw [hi] at hm
  simp only [Option.bind_some] at hm
  obtain ⟨m, h1, h2⟩ := Option.map_eq_some_iff.1 hm
  simp only [Prod.mk.injEq] at h2
  have hu : Tryz.prog.underlying 222 = some (.pointer 217) := by kernel_rfl
  have hnc : ∀ (t : TypeId) (a : Addr) (s : String), Builtin.ssaWrapNilChk_ #[t] t #[.pointer (some a), strVal "", strVal s] = pure (.pointer (some a)) := fun _ _ _ => rfl
  have hag : ∀ w, (isAgg 217).run Tryz.prog w = .ok false w := fun _ => by kernel_rfl
  unfold method
  simp [typeInfo, hi, h1, h2.1, h2.2, follow, receiverAt, Place.get, hnc, loadVar, hag, hb, go_sem, run_underlying hu]
theorem hmLen (BH g n c : Nat) (w : World) (hb : w.cell? ⟨BH, 0, none⟩ = some (.slice (some ⟨g, 0, none⟩) n c)) : (method 468 222 (.pointer (some ⟨BH, 0, none⟩)) "Len").run Tryz.prog w = .ok (353, .slice (some ⟨g, 0, none⟩) n c) w := by
  obtain ⟨i, hi⟩ : ∃ i, Tryz.prog.info? 222 = some i := Option.isSome_iff_exists.1 (by kernel_rfl)
  have hm : ((Tryz.prog.info? 222).bind fun i => i.methods.find? (·.name == "Len")).map (fun m => (m.func, m.path)) = some (some (353, false), #[]) := by kernel_rfl
  rw [hi] at hm
  simp only [Option.bind_some] at hm
  obtain ⟨m, h1, h2⟩ := Option.map_eq_some_iff.1 hm
  simp only [Prod.mk.injEq] at h2
  have hu : Tryz.prog.underlying 222 = some (.pointer 217) := by kernel_rfl
  have hnc : ∀ (t : TypeId) (a : Addr) (s : String), Builtin.ssaWrapNilChk_ #[t] t #[.pointer (some a), strVal "", strVal s] = pure (.pointer (some a)) := fun _ _ _ => rfl
  have hag : ∀ w, (isAgg 217).run Tryz.prog w = .ok false w := fun _ => by kernel_rfl
  unfold method
  simp [typeInfo, hi, h1, h2.1, h2.2, follow, receiverAt, Place.get, hnc, loadVar, hag, hb, go_sem, run_underlying hu]
theorem hmPush (BH : Nat) (w : World) : (method 468 222 (.pointer (some ⟨BH, 0, none⟩)) "Push").run Tryz.prog w = .ok (357, .pointer (some ⟨BH, 0, none⟩)) w := by kernel_rfl
theorem hmPop (BH : Nat) (w : World) : (method 468 222 (.pointer (some ⟨BH, 0, none⟩)) "Pop").run Tryz.prog w = .ok (356, .pointer (some ⟨BH, 0, none⟩)) w := by kernel_rfl
structure HpSt (w : World) (base BH g n c : Nat) (X : List StrD) (H : List (List EntD × Nat)) : Prop where
  box : w.cell? ⟨BH, 0, none⟩ = some (.slice (some ⟨g, 0, none⟩) n c)
  own : OwnH w base g n c X
  len : H.length = n
  rest : ∀ (k : Nat) x h, X[k]? = some x → H[k]? = some h → ∃ l, h = (l, x.2.2.2.2) ∧ EntsAt w (some ⟨x.1, x.2.1, none⟩) x.2.2.1 x.2.2.2.1 l ∧ x.1 < w.heap.size ∧ x.1 ≠ g ∧ x.1 ≠ BH
  ne : BH ≠ g
theorem HpSt.grown {w w' : World} {base BH g n c : Nat} {X X' : List StrD} {H H' : List (List EntD × Nat)} (h : HpSt w base BH g n c X H) (hg : w.grownBy w' (some g)) (hO : OwnH w' base g n c X') (hl : H'.length = n) (hs : ∀ (k : Nat) x s, X'[k]? = some x → H'[k]? = some s → ∃ k' : Nat, X[k']? = some x ∧ H[k']? = some s) : HpSt w' base BH g n c X' H' := by
  have hbl := World.block_lt_of_cell? _ _ h.box
  refine ⟨?_, hO, hl, fun k x s hx hh => ?_, h.ne⟩
  · rw [World.cell?_of_block (a := ⟨BH, 0, none⟩) (hg.block BH hbl (fun e => h.ne (Option.some.inj e)))]
    exact h.box
  · obtain ⟨k', h1, h2⟩ := hs k x s hx hh
    obtain ⟨l, r1, r2, r3, r4⟩ := h.rest k' x s h1 h2
    refine ⟨l, r1, r2.grownB hg (fun y ey _ => ?_), Nat.lt_of_lt_of_le r3 hg.size, r4⟩
    cases ey
    exact fun e => r4.1 (Option.some.inj e)
theorem HpSt.below {w w' : World} {base BH g n c : Nat} {X : List StrD} {H : List (List EntD × Nat)} (h : HpSt w base BH g n c X H) (hb : Below w.heap.size w w') : HpSt w' base BH g n c X H := by
  exact h.grown ⟨hb.os, hb.tape, hb.output, hb.size, fun k hk _ => hb.block k hk⟩ (h.own.below hb) h.len (fun k x s hx hh => ⟨k, hx, hh⟩)
theorem HpSt.swap {w w' : World} {base BH g n c i j : Nat} {X : List StrD} {H : List (List EntD × Nat)} {x y : StrD} {u v : List EntD × Nat} (h : HpSt w base BH g n c X H) (hx : X[i]? = some x) (hy : X[j]? = some y) (hu : H[i]? = some u) (hv : H[j]? = some v) (hg : w.grownBy w' (some g)) (hO : OwnH w' base g n c ((X.set i y).set j x)) : HpSt w' base BH g n c (Mg.sw X i j x y) (Mg.sw H i j u v) := by
  refine h.grown hg hO (by rw [Mg.sw_len]; exact h.len) (fun k z s hz hs => ?_)
  rw [Mg.sw_get hx hy] at hz
  rw [Mg.sw_get hu hv] at hs
  by_cases h1 : k = j
  · rw [if_pos h1] at hz hs
    exact ⟨i, by rw [hx]; exact hz, by rw [hu]; exact hs⟩
  · rw [if_neg h1] at hz hs
    by_cases h2 : k = i
    · rw [if_pos h2] at hz hs
      exact ⟨j, by rw [hy]; exact hz, by rw [hv]; exact hs⟩
    · rw [if_neg h2] at hz hs
      exact ⟨k, hz, hs⟩
def LiveTo (n : Nat) (H : List (List EntD × Nat)) : Prop := ∀ (j : Nat) h, j < n → H[j]? = some h → h.1 ≠ []
theorem LiveTo.of {n : Nat} {H : List (List EntD × Nat)} (h : ∀ s ∈ H, s.1 ≠ []) : LiveTo n H := fun _ s _ hs => h s (List.mem_of_getElem? hs)
theorem LiveTo.swap {n i j : Nat} {H : List (List EntD × Nat)} {u v : List EntD × Nat} (h : LiveTo n H) (hu : H[i]? = some u) (hv : H[j]? = some v) (hi : i < n) (hj : j < n) : LiveTo n (Mg.sw H i j u v) := fun k s hk hs => by
  rw [Mg.sw_get hu hv] at hs
  by_cases h1 : k = j
  · rw [if_pos h1] at hs; cases hs; exact h i _ hi hu
  · rw [if_neg h1] at hs
    by_cases h2 : k = i
    · rw [if_pos h2] at hs; cases hs; exact h j _ hj hv
    · rw [if_neg h2] at hs; exact h k s hk hs
theorem HpSt.less {w : World} {base BH g n c i j : Nat} {X : List StrD} {H : List (List EntD × Nat)} {u v : List EntD × Nat} (h : HpSt w base BH g n c X H) (hu : H[i]? = some u) (hv : H[j]? = some v) (hu0 : u.1 ≠ []) (hv0 : v.1 ≠ []) :
    Calls Tryz.prog 354 #[.slice (some ⟨g, 0, none⟩) n c, .int .i64 i, .int .i64 j] w fun e w' => e = .returned (.bool (Mg.lessS lessE u v)) ∧ Below w.heap.size w w' := by
  have hi := (List.getElem?_eq_some_iff.1 hu).1
  have hj := (List.getElem?_eq_some_iff.1 hv).1
  have hl := h.len
  have hX := h.own.len
  obtain ⟨⟨b1, o1, n1, c1, k1⟩, hx⟩ : ∃ x, X[i]? = some x := ⟨_, List.getElem?_eq_getElem (by omega)⟩
  obtain ⟨⟨b2, o2, n2, c2, k2⟩, hy⟩ : ∃ y, X[j]? = some y := ⟨_, List.getElem?_eq_getElem (by omega)⟩
  obtain ⟨lu, rfl, r2, r3, _⟩ := h.rest i _ u hx hu
  obtain ⟨lv, rfl, p2, p3, _⟩ := h.rest j _ v hy hv
  obtain ⟨⟨s, q, d, t, m⟩, l, rfl⟩ := List.exists_cons_of_ne_nil hu0
  obtain ⟨⟨s', q', d', t', m'⟩, l', rfl⟩ := List.exists_cons_of_ne_nil hv0
  simp only at r2 r3 p2 p3
  obtain ⟨x0, x1⟩ := h.own.at2 hx
  obtain ⟨y0, y1⟩ := h.own.at2 hy
  have hn1 : 0 < n1 := by have := r2.length; simp at this; omega
  have hn2 : 0 < n2 := by have := p2.length; simp at this; omega
  obtain ⟨e0, e1, e2, e3, e4⟩ := r2.cells _ rfl 0 (by simp)
  obtain ⟨f0, f1, f2, f3, f4⟩ := p2.cells _ rfl 0 (by simp)
  simp only [Nat.zero_mul, Nat.add_zero, List.getElem_cons_zero] at e0 e1 e2 e3 e4 f0 f1 f2 f3 f4
  have hw := headsLess g n c i j b1 o1 n1 c1 b2 o2 n2 c2 k1 k2 s t s' t' q d m q' d' m' w (by omega) (by omega) hn1 hn2 x0 x1 y0 y1 e0 e1 e2 e3 e4 f0 f1 f2 f3 f4
  have hd := head_less (s, q, d, t, m) (s', q', d', t', m') l l' k1 k2
  simp only at hd
  rw [hd] at hw
  exact hw
end Go.Proofs.YtapjkbpfhmbfaaaGreatDoor

namespace Go.Proofs.YtapjkbpfhmbfaaaGreatDoor
open Go.RowKit
set_option maxRecDepth 100000
set_option maxHeartbeats 4000000
theorem flatH_take : ∀ (X : List StrD) (k : Nat), flatH (X.take k) = (flatH X).take (k * 2)
  | [], k => by simp [flatH]
  | x :: X, 0 => by simp [flatH]
  | x :: X, k + 1 => by
    rw [List.take_succ_cons, flatH_cons, flatH_cons, flatH_take X k, show (k + 1) * 2 = k * 2 + 1 + 1 by omega, List.take_succ_cons, List.take_succ_cons]
theorem OwnH.take {w : World} {base g n c k : Nat} {X : List StrD} (h : OwnH w base g n c X) (hk : k ≤ n) : OwnH w base g k c (X.take k) := by
  have hl := h.len
  obtain ⟨h1, h2⟩ := h.owns
  rcases h2 with ⟨hv, _⟩ | ⟨g', cap, cur, hv, hb, hg, hnc, hcm, hs, ht⟩
  · cases hv
  · cases hv
    refine ⟨⟨by rw [flatH_len, List.length_take, Nat.min_eq_left (by omega)], .inr ⟨g, c, cur, rfl, hb, hg, by omega, hcm, hs, ?_⟩⟩, by rw [List.length_take]; omega⟩
    rw [flatH_take, ← ht, List.take_take, Nat.min_eq_left (by omega)]
theorem HpSt.pop {w : World} {base BH g n c k : Nat} {X : List StrD} {H : List (List EntD × Nat)} {o : Obj} (h : HpSt w base BH g n c X H) (hk : n = k + 1) : HpSt ((w.setCell ⟨BH, 0, none⟩ (.slice (some ⟨g, 0, none⟩) k c)).alloc o) base BH g k c (X.take k) (H.take k) := by
  obtain ⟨w1, hw1⟩ : ∃ w1, w1 = w.setCell ⟨BH, 0, none⟩ (.slice (some ⟨g, 0, none⟩) k c) := ⟨_, rfl⟩
  have hg : w.grownBy w1 (some BH) := by rw [hw1]; exact grown_cellH w BH 0 _
  have hb1 : w1.cell? ⟨BH, 0, none⟩ = some (.slice (some ⟨g, 0, none⟩) k c) := by rw [hw1]; exact World.cell?_setCell_same' _ _ _ (by rw [h.box]; rfl)
  rw [← hw1]
  have h1 : HpSt w1 base BH g k c (X.take k) (H.take k) := by
    refine ⟨hb1, (h.own.take (by omega)).grown hg (fun e => h.ne (Option.some.inj e).symm), by rw [List.length_take, h.len]; omega, fun j x s hx hs => ?_, h.ne⟩
    have hjx := (List.getElem?_eq_some_iff.1 hx).1
    rw [List.length_take] at hjx
    rw [List.getElem?_take_of_lt (by omega)] at hx hs
    obtain ⟨l, r1, r2, r3, r4, r5⟩ := h.rest j x s hx hs
    refine ⟨l, r1, r2.grownB hg (fun y ey _ => ?_), Nat.lt_of_lt_of_le r3 hg.size, r4, r5⟩
    cases ey
    exact fun e => r5 (Option.some.inj e)
  exact h1.below ((Below.refl _ _).alloc (Nat.le_refl _) _)
theorem headsPop (base BH g n c k : Nat) (X : List StrD) (H : List (List EntD × Nat)) (w : World) (hk : n = k + 1) (hn : n ≤ 1048576) (hB : base ≤ BH) (hfr : w.frozen? ⟨BH, 0, none⟩ = false) (hS : HpSt w base BH g n c X H) :
    Calls Tryz.prog 356 #[.pointer (some ⟨BH, 0, none⟩)] w fun e w' => (∃ v, e = .returned v) ∧ HpSt w' base BH g k c (X.take k) (H.take k) ∧ Below base w w' ∧ KeepsOthers w w' ∧ w'.frozen? ⟨BH, 0, none⟩ = false ∧ w.grownBy w' (some BH) := by
  have hXL := hS.own.len
  obtain ⟨⟨xb, xo, xn, xc, xk⟩, hx⟩ : ∃ x, X[k]? = some x := ⟨_, List.getElem?_eq_getElem (by omega)⟩
  obtain ⟨x0, x1⟩ := hS.own.at2 hx
  simp only at x0 x1
  have hb := hS.box
  have zg := hS.own.lt.2
  have zb := World.block_lt_of_cell? _ _ hb
  simp only at zb
  have HS : Hid (HpSt w base BH g n c X H) := hS
  have HFR : Hid (w.frozen? ⟨BH, 0, none⟩ = false) := hfr
  have wk : IntKind.i64.wrap ((n : Int) - 1) = (k : Int) := by rw [IntKind.wrap_i64]; omega
  have hkI : (k : Int) < (n : Int) := by omega
  have hc : n ≤ c := by
    rcases hS.own.owns.2 with ⟨hv, _⟩ | ⟨g', cap, cur, hv, _, _, hnc, _⟩
    · cases hv
    · cases hv; exact hnc
  have hcI : (k : Int) ≤ (c : Int) := by omega
  clear hS
  go_enter Tryz.func356, Tryz.ntmps356
  go_wp2
  go_ret
  refine ⟨⟨_, rfl⟩, ?_, ?_, (KeepsOthers.setCell _ _ _).trans (KeepsOthers.alloc _ _), ?_, (grown_cellH _ _ _ _).trans (World.grownBy_alloc _ _ _)⟩
  · exact HS.out.pop hk
  · exact ((Below.refl base w).setCell (p := ⟨BH, 0, none⟩) hB _).alloc (by have := HS.out.own.lt; simp [World.setCell]; omega) _
  · rw [World.frozen?_alloc_old _ _ _ (by show BH ≠ _; simp [World.setCell]; omega), World.frozen?_setCell]; exact HFR.out
end Go.Proofs.YtapjkbpfhmbfaaaGreatDoor

namespace Go.Proofs.YtapjkbpfhmbfaaaGreatDoor
open Go.RowKit
structure HpV (w : World) (base BH : Nat) (v : Value) (X : List StrD) (H : List (List EntD × Nat)) : Prop where
  box : Boxed w BH 217 v
  row : w.ownsRow base 224 2 v H.length (flatH X)
  xl : X.length = H.length
  rest : ∀ (k : Nat) x h, X[k]? = some x → H[k]? = some h → ∃ e l, h = (e :: l, x.2.2.2.2) ∧ EntsAt w (some ⟨x.1, x.2.1, none⟩) x.2.2.1 x.2.2.2.1 (e :: l)
  low : ∀ x ∈ X, x.1 < base
  hB : base ≤ BH
theorem HpV.empty {w : World} {base BH : Nat} (h : Boxed w BH 217 (.slice none 0 0)) (hB : base ≤ BH) : HpV w base BH (.slice none 0 0) [] [] :=
  ⟨h, ⟨rfl, .inl ⟨rfl, rfl⟩⟩, rfl, (fun k x h hx => by simp at hx), (fun x hx => by cases hx), hB⟩
theorem HpV.grown {w w' : World} {base BH : Nat} {v : Value} {X : List StrD} {H : List (List EntD × Nat)} {row : Option Nat} (h : HpV w base BH v X H) (hg : w.grownBy w' row) (h1 : some BH ≠ row) (h2 : ∀ g, v.ownBlock = some g → some g ≠ row) (h3 : ∀ r, row = some r → base ≤ r) : HpV w' base BH v X H := by
  refine ⟨h.box.kept hg h1, h.row.kept hg ?_, h.xl, fun k x s hx hs => ?_, h.low, h.hB⟩
  · cases hv : v.ownBlock with
    | none => exact .inl rfl
    | some g => exact .inr (h2 g hv)
  · obtain ⟨e, l, r1, r2⟩ := h.rest k x s hx hs
    refine ⟨e, l, r1, r2.grownB hg (fun y ey _ => ?_)⟩
    cases ey
    intro e'
    have h4 := h3 _ e'.symm
    have h5 := h.low x (List.mem_of_getElem? hx)
    exact absurd h4 (by simp only; omega)
theorem HpV.below {w w' : World} {base BH : Nat} {v : Value} {X : List StrD} {H : List (List EntD × Nat)} (h : HpV w base BH v X H) (hb : Below w.heap.size w w') : HpV w' base BH v X H :=
  h.grown (row := none) (grown_none hb) (by simp) (fun g _ => by simp) (fun r e => by cases e)
theorem HpV.cells {w : World} {base BH : Nat} {v : Value} {X : List StrD} {H : List (List EntD × Nat)} (h : HpV w base BH v X H) {g : Nat} (hg : v.ownBlock = some g) : ∃ cc, w.heap[g]? = some (.cells cc 224 (0, 0)) := by
  rcases h.row.2 with ⟨hv, _⟩ | ⟨g', cap, cur, hv, _, hc, _⟩
  · rw [hv] at hg; cases hg
  · rw [hv] at hg
    cases hg
    exact ⟨_, hc⟩
theorem HpV.own {w w' : World} {base BH B : Nat} {v : Value} {X : List StrD} {H : List (List EntD × Nat)} {row : Option Nat} (h : HpV w base BH v X H) (hB : base ≤ B) (hg : w.grownBy w' row) (hr : ∀ r, row = some r → B ≤ r ∧ ∃ o : Obj, w.heap[r]? = some o ∧ o.isCells = false) : HpV w' base BH v X H := by
  refine h.grown hg (fun e => ?_) (fun g hg' e => ?_) (fun r e => by have := (hr r e).1; omega)
  · obtain ⟨_, o, ho, hc⟩ := hr _ e.symm
    rw [show w.heap[BH]? = _ from h.box] at ho
    cases ho
    cases hc
  · obtain ⟨_, o, ho, hc⟩ := hr _ e.symm
    obtain ⟨cc, hcc⟩ := h.cells hg'
    rw [hcc] at ho
    cases ho
    cases hc
theorem HpV.hp {w : World} {base BH g n c : Nat} {X : List StrD} {H : List (List EntD × Nat)} (h : HpV w base BH (.slice (some ⟨g, 0, none⟩) n c) X H) (hn : H.length = n) : HpSt w base BH g n c X H := by
  have hxl := h.xl
  have hO : OwnH w base g n c X := ⟨by have := h.row; rw [hn] at this; exact this, by omega⟩
  refine ⟨h.box.cell, hO, hn, fun k x s hx hs => ?_, ?_⟩
  · obtain ⟨e, l, r1, r2⟩ := h.rest k x s hx hs
    have h1 := h.low x (List.mem_of_getElem? hx)
    have h2 := hO.lt
    have h3 := h.hB
    exact ⟨e :: l, r1, r2, by omega, by omega, by omega⟩
  · intro e
    exact (h.box.not_row (by decide) h.row) (by rw [e]; rfl)
theorem HpV.live {w : World} {base BH : Nat} {v : Value} {X : List StrD} {H : List (List EntD × Nat)} (h : HpV w base BH v X H) : ∀ s ∈ H, s.1 ≠ [] := fun s hs => by
  obtain ⟨k, hk⟩ := List.getElem?_of_mem hs
  have hl := (List.getElem?_eq_some_iff.1 hk).1
  obtain ⟨e, l, rfl, _⟩ := h.rest k _ s (List.getElem?_eq_getElem (by rw [h.xl]; exact hl)) hk
  exact fun e => by cases e
theorem HpV.of {w w' : World} {base BH g n c : Nat} {v : Value} {X X' : List StrD} {H H' : List (List EntD × Nat)} (h : HpV w base BH v X H) (hS : HpSt w' base BH g n c X' H') (hx : X'.Perm X) (hv : ∀ s ∈ H', s.1 ≠ []) (hb : Boxed w' BH 217 (.slice (some ⟨g, 0, none⟩) n c)) : HpV w' base BH (.slice (some ⟨g, 0, none⟩) n c) X' H' := by
  refine ⟨hb, by rw [hS.len]; exact hS.own.owns, by rw [hS.len]; exact hS.own.len, fun k x s hx' hs => ?_, fun x hx' => h.low x (hx.mem_iff.1 hx'), h.hB⟩
  obtain ⟨l0, rfl, r2, _⟩ := hS.rest k x s hx' hs
  obtain ⟨e, l, rfl⟩ := List.exists_cons_of_ne_nil (hv _ (List.mem_of_getElem? hs))
  exact ⟨e, l, rfl, r2⟩
def KeptB (BH : Nat) (w w' : World) : Prop := ∀ (B : Nat) (T : TypeId) (u : Value), Boxed w B T u → T ≠ 224 → B ≠ BH → Boxed w' B T u
theorem KeptB.trans {BH : Nat} {a b c : World} (h : KeptB BH a b) (k : KeptB BH b c) : KeptB BH a c := fun B T u hb hT hB => k B T u (h B T u hb hT hB) hT hB
theorem KeptB.below {BH : Nat} {a b : World} (h : Below a.heap.size a b) : KeptB BH a b := fun B T u hb _ _ => hb.kept (grown_none h) (by simp)
theorem KeptB.grown {BH g : Nat} {a b : World} (h : a.grownBy b (some g)) (hg : ∃ cc, a.heap[g]? = some (.cells cc 224 (0, 0))) : KeptB BH a b := fun B T u hb hT _ => hb.kept h (fun e => by
  have e' := Option.some.inj e
  subst e'
  obtain ⟨cc, hc⟩ := hg
  have hc' := (show a.heap[B]? = _ from hb).symm.trans hc
  cases hc'
  exact hT rfl)
theorem flatH_snoc (X : List StrD) (x : StrD) : flatH (X ++ [x]) = flatH X ++ strCells x := by rw [flatH_append]; simp [flatH]
theorem HpV.push {W w1 : World} {base BH g' c' : Nat} {v : Value} {X : List StrD} {H : List (List EntD × Nat)} {x : StrD} {e : EntD} {l : List EntD} (h : HpV W base BH v X H) (hE : EntsAt W (some ⟨x.1, x.2.1, none⟩) x.2.2.1 x.2.2.2.1 (e :: l)) (hx : x.1 < base)
    (hown : w1.ownsRow base 224 2 (.slice (some ⟨g', 0, none⟩) (H.length + 1) c') (H.length + 1) (flatH X ++ strCells x)) (hgrow : W.grownBy w1 v.ownBlock) :
    Boxed w1 BH 217 v ∧ HpV (w1.setCell ⟨BH, 0, none⟩ (.slice (some ⟨g', 0, none⟩) (H.length + 1) c')) base BH (.slice (some ⟨g', 0, none⟩) (H.length + 1) c') (X ++ [x]) (H ++ [(e :: l, x.2.2.2.2)]) ∧ KeepsOthers W (w1.setCell ⟨BH, 0, none⟩ (.slice (some ⟨g', 0, none⟩) (H.length + 1) c')) ∧ (base ≤ W.heap.size → Below base W (w1.setCell ⟨BH, 0, none⟩ (.slice (some ⟨g', 0, none⟩) (H.length + 1) c'))) ∧ KeptB BH W (w1.setCell ⟨BH, 0, none⟩ (.slice (some ⟨g', 0, none⟩) (H.length + 1) c')) := by
  have b1 := h.box.kept hgrow (h.box.not_row (by decide) h.row)
  have hgs := grownBy_setCell' w1 BH (.slice (some ⟨g', 0, none⟩) (H.length + 1) c')
  have hlow : ∀ (y : StrD) (e0 : EntD) (l0 : List EntD), y.1 < base → EntsAt W (some ⟨y.1, y.2.1, none⟩) y.2.2.1 y.2.2.2.1 (e0 :: l0) → EntsAt (w1.setCell ⟨BH, 0, none⟩ (.slice (some ⟨g', 0, none⟩) (H.length + 1) c')) (some ⟨y.1, y.2.1, none⟩) y.2.2.1 y.2.2.2.1 (e0 :: l0) := by
    intro y e0 l0 hy hy2
    refine (hy2.grownB hgrow (fun z ez _ e' => ?_)).grownB hgs (fun z ez _ e' => ?_)
    · cases ez
      have := (h.row.lt _ e'.symm).1
      simp only at this
      omega
    · cases ez
      have h7 := Option.some.inj e'
      have h8 := h.hB
      simp only at h7
      omega
  refine ⟨b1, ⟨b1.set _, ?_, ?_, ?_, ?_, h.hB⟩, ?_, fun hs => ?_, fun B T u hb hT hB => Boxed.kept (hb.kept hgrow (hb.not_row hT h.row)) hgs (fun e => hB (Option.some.inj e))⟩
  · rw [List.length_append, flatH_snoc]
    exact hown.kept hgs (.inr (b1.not_row (by decide) hown).symm)
  · rw [List.length_append, List.length_append, h.xl]; rfl
  · intro k y s hy hs
    by_cases hk : k < X.length
    · rw [List.getElem?_append_left hk] at hy
      rw [List.getElem?_append_left (by rw [← h.xl]; exact hk)] at hs
      obtain ⟨e0, l0, r1, r2⟩ := h.rest k y s hy hs
      exact ⟨e0, l0, r1, hlow y e0 l0 (h.low y (List.mem_of_getElem? hy)) r2⟩
    · rw [List.getElem?_append_right (by omega)] at hy
      rw [List.getElem?_append_right (by rw [← h.xl]; omega), ← h.xl] at hs
      have hk0 : k - X.length = 0 := by
        have := (List.getElem?_eq_some_iff.1 hy).1
        simp at this
        omega
      rw [hk0] at hy hs
      simp at hy hs
      subst hy
      subst hs
      exact ⟨e, l, rfl, hlow _ e l hx hE⟩
  · intro y hy
    rcases List.mem_append.1 hy with h1 | h1
    · exact h.low y h1
    · rw [List.mem_singleton] at h1
      subst h1
      exact hx
  · refine (KeepsOthers.of_grownBy hgrow fun j o ej hj => ?_).trans (KeepsOthers.setCell _ _ _)
    obtain ⟨cc, hcc⟩ := h.cells ej
    rw [hcc] at hj
    cases hj
    rfl
  · exact ((Below.refl base W).grown hgrow hs (fun k ek => (h.row.lt k ek).1)).setCell (p := ⟨BH, 0, none⟩) h.hB _
end Go.Proofs.YtapjkbpfhmbfaaaGreatDoor
