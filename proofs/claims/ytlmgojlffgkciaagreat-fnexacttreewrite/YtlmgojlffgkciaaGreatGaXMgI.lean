/-
  The program's heads behind the library's interface: which function an interface call enters, and the state of a heap. No function is walked here.
-/
import Derived.Test.YtlmgojlffgkciaaGreatGaXMgW
import Derived.Test.YtlmgojlffgkciaaGreatGaXMgH
namespace Go.Proofs.YtlmgojlffgkciaaGreat
open Go.RowKit
set_option maxRecDepth 100000
set_option maxHeartbeats 4000000
theorem hmLess (BH g n c : Nat) (w : World) (hb : w.cell? ⟨BH, 0, none⟩ = some (.slice (some ⟨g, 0, none⟩) n c)) : (method 373 134 (.pointer (some ⟨BH, 0, none⟩)) "Less").run Tryz.prog w = .ok (257, .slice (some ⟨g, 0, none⟩) n c) w := by
  obtain ⟨i, hi⟩ : ∃ i, Tryz.prog.info? 134 = some i := Option.isSome_iff_exists.1 (by kernel_rfl)
  have hm : ((Tryz.prog.info? 134).bind fun i => i.methods.find? (·.name == "Less")).map (fun m => (m.func, m.path)) = some (some (257, false), #[]) := by kernel_rfl
  rw [hi] at hm
  simp only [Option.bind_some] at hm
  obtain ⟨m, h1, h2⟩ := Option.map_eq_some_iff.1 hm
  simp only [Prod.mk.injEq] at h2
  have hu : Tryz.prog.underlying 134 = some (.pointer 129) := by kernel_rfl
  have hnc : ∀ (t : TypeId) (a : Addr) (s : String), Builtin.ssaWrapNilChk_ #[t] t #[.pointer (some a), strVal "", strVal s] = pure (.pointer (some a)) := fun _ _ _ => rfl
  have hag : ∀ w, (isAgg 129).run Tryz.prog w = .ok false w := fun _ => by kernel_rfl
  unfold method
  simp [typeInfo, hi, h1, h2.1, h2.2, follow, receiverAt, Place.get, hnc, loadVar, hag, hb, go_sem, run_underlying hu]
theorem hmSwap (BH g n c : Nat) (w : World) (hb : w.cell? ⟨BH, 0, none⟩ = some (.slice (some ⟨g, 0, none⟩) n c)) : (method 373 134 (.pointer (some ⟨BH, 0, none⟩)) "Swap").run Tryz.prog w = .ok (258, .slice (some ⟨g, 0, none⟩) n c) w := by
  obtain ⟨i, hi⟩ : ∃ i, Tryz.prog.info? 134 = some i := Option.isSome_iff_exists.1 (by kernel_rfl)
  have hm : ((Tryz.prog.info? 134).bind fun i => i.methods.find? (·.name == "Swap")).map (fun m => (m.func, m.path)) = some (some (258, false), #[]) := by kernel_rfl
  rw [hi] at hm
  simp only [Option.bind_some] at hm
  obtain ⟨m, h1, h2⟩ := Option.map_eq_some_iff.1 hm
  simp only [Prod.mk.injEq] at h2
  have hu : Tryz.prog.underlying 134 = some (.pointer 129) := by kernel_rfl
  have hnc : ∀ (t : TypeId) (a : Addr) (s : String), Builtin.ssaWrapNilChk_ #[t] t #[.pointer (some a), strVal "", strVal s] = pure (.pointer (some a)) := fun _ _ _ => rfl
  have hag : ∀ w, (isAgg 129).run Tryz.prog w = .ok false w := fun _ => by kernel_rfl
  unfold method
  simp [typeInfo, hi, h1, h2.1, h2.2, follow, receiverAt, Place.get, hnc, loadVar, hag, hb, go_sem, run_underlying hu]
theorem hmLen (BH g n c : Nat) (w : World) (hb : w.cell? ⟨BH, 0, none⟩ = some (.slice (some ⟨g, 0, none⟩) n c)) : (method 373 134 (.pointer (some ⟨BH, 0, none⟩)) "Len").run Tryz.prog w = .ok (256, .slice (some ⟨g, 0, none⟩) n c) w := by
  obtain ⟨i, hi⟩ : ∃ i, Tryz.prog.info? 134 = some i := Option.isSome_iff_exists.1 (by kernel_rfl)
  have hm : ((Tryz.prog.info? 134).bind fun i => i.methods.find? (·.name == "Len")).map (fun m => (m.func, m.path)) = some (some (256, false), #[]) := by kernel_rfl
  rw [hi] at hm
  simp only [Option.bind_some] at hm
  obtain ⟨m, h1, h2⟩ := Option.map_eq_some_iff.1 hm
  simp only [Prod.mk.injEq] at h2
  have hu : Tryz.prog.underlying 134 = some (.pointer 129) := by kernel_rfl
  have hnc : ∀ (t : TypeId) (a : Addr) (s : String), Builtin.ssaWrapNilChk_ #[t] t #[.pointer (some a), strVal "", strVal s] = pure (.pointer (some a)) := fun _ _ _ => rfl
  have hag : ∀ w, (isAgg 129).run Tryz.prog w = .ok false w := fun _ => by kernel_rfl
  unfold method
  simp [typeInfo, hi, h1, h2.1, h2.2, follow, receiverAt, Place.get, hnc, loadVar, hag, hb, go_sem, run_underlying hu]
theorem hmPush (BH : Nat) (w : World) : (method 373 134 (.pointer (some ⟨BH, 0, none⟩)) "Push").run Tryz.prog w = .ok (260, .pointer (some ⟨BH, 0, none⟩)) w := by kernel_rfl
theorem hmPop (BH : Nat) (w : World) : (method 373 134 (.pointer (some ⟨BH, 0, none⟩)) "Pop").run Tryz.prog w = .ok (259, .pointer (some ⟨BH, 0, none⟩)) w := by kernel_rfl
structure HpSt (w : World) (base BH g n c : Nat) (X : List StrD) (H : List (List EntD × Nat)) : Prop where
  box : w.cell? ⟨BH, 0, none⟩ = some (.slice (some ⟨g, 0, none⟩) n c)
  own : OwnH w base g n c X
  len : H.length = n
  rest : ∀ (k : Nat) x h, X[k]? = some x → H[k]? = some h → ∃ l, h = (l, x.2.2.2.2) ∧ EntsAt w (some ⟨x.1, x.2.1, none⟩) x.2.2.1 x.2.2.2.1 l ∧ x.1 < w.heap.size ∧ x.1 ≠ g ∧ x.1 ≠ BH
  ne : BH ≠ g
theorem HpSt.grown {w w' : World} {base BH g n c : Nat} {X X' : List StrD} {H H' : List (List EntD × Nat)} (h : HpSt w base BH g n c X H) (hg : w.grownBy w' (some g)) (hO : OwnH w' base g n c X') (hl : H'.length = n) (hs : ∀ (k : Nat) x s, X'[k]? = some x → H'[k]? = some s → ∃ k' : Nat, X[k']? = some x ∧ H[k']? = some s) : HpSt w' base BH g n c X' H' := by
  have hbl := World.block_lt_of_cell? _ _ h.box
  refine ⟨?_, hO, hl, fun k x s hx hh => ?_, h.ne⟩
  · rw [World.cell?_of_block (a := ⟨BH, 0, none⟩) (hg.block BH hbl (fun e => h.ne (Option.some.inj e)))]
    exact h.box
  · obtain ⟨k', h1, h2⟩ := hs k x s hx hh
    obtain ⟨l, r1, r2, r3, r4⟩ := h.rest k' x s h1 h2
    refine ⟨l, r1, r2.grownB hg (fun y ey _ => ?_), Nat.lt_of_lt_of_le r3 hg.size, r4⟩
    cases ey
    exact fun e => r4.1 (Option.some.inj e)
theorem HpSt.below {w w' : World} {base BH g n c : Nat} {X : List StrD} {H : List (List EntD × Nat)} (h : HpSt w base BH g n c X H) (hb : Below w.heap.size w w') : HpSt w' base BH g n c X H := by
  exact h.grown ⟨hb.os, hb.tape, hb.output, hb.size, fun k hk _ => hb.block k hk⟩ (h.own.below hb) h.len (fun k x s hx hh => ⟨k, hx, hh⟩)
theorem HpSt.swap {w w' : World} {base BH g n c i j : Nat} {X : List StrD} {H : List (List EntD × Nat)} {x y : StrD} {u v : List EntD × Nat} (h : HpSt w base BH g n c X H) (hx : X[i]? = some x) (hy : X[j]? = some y) (hu : H[i]? = some u) (hv : H[j]? = some v) (hg : w.grownBy w' (some g)) (hO : OwnH w' base g n c ((X.set i y).set j x)) : HpSt w' base BH g n c (Mg.sw X i j x y) (Mg.sw H i j u v) := by
  refine h.grown hg hO (by rw [Mg.sw_len]; exact h.len) (fun k z s hz hs => ?_)
  rw [Mg.sw_get hx hy] at hz
  rw [Mg.sw_get hu hv] at hs
  by_cases h1 : k = j
  · rw [if_pos h1] at hz hs
    exact ⟨i, by rw [hx]; exact hz, by rw [hu]; exact hs⟩
  · rw [if_neg h1] at hz hs
    by_cases h2 : k = i
    · rw [if_pos h2] at hz hs
      exact ⟨j, by rw [hy]; exact hz, by rw [hv]; exact hs⟩
    · rw [if_neg h2] at hz hs
      exact ⟨k, hz, hs⟩
def LiveTo (n : Nat) (H : List (List EntD × Nat)) : Prop := ∀ (j : Nat) h, j < n → H[j]? = some h → h.1 ≠ []
theorem LiveTo.of {n : Nat} {H : List (List EntD × Nat)} (h : ∀ s ∈ H, s.1 ≠ []) : LiveTo n H := fun _ s _ hs => h s (List.mem_of_getElem? hs)
theorem LiveTo.swap {n i j : Nat} {H : List (List EntD × Nat)} {u v : List EntD × Nat} (h : LiveTo n H) (hu : H[i]? = some u) (hv : H[j]? = some v) (hi : i < n) (hj : j < n) : LiveTo n (Mg.sw H i j u v) := fun k s hk hs => by
  rw [Mg.sw_get hu hv] at hs
  by_cases h1 : k = j
  · rw [if_pos h1] at hs; cases hs; exact h i _ hi hu
  · rw [if_neg h1] at hs
    by_cases h2 : k = i
    · rw [if_pos h2] at hs; cases hs; exact h j _ hj hv
    · rw [if_neg h2] at hs; exact h k s hk hs
theorem HpSt.less {w : World} {base BH g n c i j : Nat} {X : List StrD} {H : List (List EntD × Nat)} {u v : List EntD × Nat} (h : HpSt w base BH g n c X H) (hu : H[i]? = some u) (hv : H[j]? = some v) (hu0 : u.1 ≠ []) (hv0 : v.1 ≠ []) :
    Calls Tryz.prog 257 #[.slice (some ⟨g, 0, none⟩) n c, .int .i64 i, .int .i64 j] w fun e w' => e = .returned (.bool (Mg.lessS lessE u v)) ∧ Below w.heap.size w w' := by
  have hi := (List.getElem?_eq_some_iff.1 hu).1
  have hj := (List.getElem?_eq_some_iff.1 hv).1
  have hl := h.len
  have hX := h.own.len
  obtain ⟨⟨b1, o1, n1, c1, k1⟩, hx⟩ : ∃ x, X[i]? = some x := ⟨_, List.getElem?_eq_getElem (by omega)⟩
  obtain ⟨⟨b2, o2, n2, c2, k2⟩, hy⟩ : ∃ y, X[j]? = some y := ⟨_, List.getElem?_eq_getElem (by omega)⟩
  obtain ⟨lu, rfl, r2, r3, _⟩ := h.rest i _ u hx hu
  obtain ⟨lv, rfl, p2, p3, _⟩ := h.rest j _ v hy hv
  obtain ⟨⟨s, q, d, t, m⟩, l, rfl⟩ := List.exists_cons_of_ne_nil hu0
  obtain ⟨⟨s', q', d', t', m'⟩, l', rfl⟩ := List.exists_cons_of_ne_nil hv0
  simp only at r2 r3 p2 p3
  obtain ⟨x0, x1⟩ := h.own.at2 hx
  obtain ⟨y0, y1⟩ := h.own.at2 hy
  have hn1 : 0 < n1 := by have := r2.length; simp at this; omega
  have hn2 : 0 < n2 := by have := p2.length; simp at this; omega
  obtain ⟨e0, e1, e2, e3, e4⟩ := r2.cells _ rfl 0 (by simp)
  obtain ⟨f0, f1, f2, f3, f4⟩ := p2.cells _ rfl 0 (by simp)
  simp only [Nat.zero_mul, Nat.add_zero, List.getElem_cons_zero] at e0 e1 e2 e3 e4 f0 f1 f2 f3 f4
  have hw := headsLess g n c i j b1 o1 n1 c1 b2 o2 n2 c2 k1 k2 s t s' t' q d m q' d' m' w (by omega) (by omega) hn1 hn2 x0 x1 y0 y1 e0 e1 e2 e3 e4 f0 f1 f2 f3 f4
  have hd := head_less (s, q, d, t, m) (s', q', d', t', m') l l' k1 k2
  simp only at hd
  rw [hd] at hw
  exact hw
end Go.Proofs.YtlmgojlffgkciaaGreat
