/-
  What the program's order of entries leaves behind: blocks of its own alone; and that it is an order.
  Plain: entries put in order one by one, and any other way, are the same where no two are alike; no statement of the program stands here.
  Plain: what a heap of stretches gives out is what the document's sorting makes of all. No statement of the program stands here.
-/
import Derived.Test.YtkdalacclafihaaBn06
import Derived.Test.YtkdalacclafihaaBn01
import Derived.Sort.Grow
import Derived.Sort.Statements
import Derived.Shelf.SlSortCmp.InsertionK
import Derived.Test.YtkdalacclafihaaBn08
import Derived.Test.YtkdalacclafihaaBn10
namespace Go.Proofs.Ytkdalacclafihaa
open Go.RowKit Go.Sort

theorem alloc_grow (w : World) (o : Obj) : w.alloc o = grow w #[o] := by
  unfold World.alloc grow
  simp
set_option maxRecDepth 100000 in
set_option maxHeartbeats 1000000 in
theorem implOrderX (ka ta kb tb : ByteArray) (qa da na qb db nb : Int) (w : World) :
    Calls Try.prog 41 #[.agg #[.string ka, .int .i64 qa, .int .i64 da, .string ta, .int .i64 na], .agg #[.string kb, .int .i64 qb, .int .i64 db, .string tb, .int .i64 nb]] w fun e w' => e = .returned (.int .i64 (ordI ka qa kb qb)) ∧ ∃ q os', w' = grow (w.drewN q) os' := by
  obtain ⟨C, hC⟩ : ∃ C, C = Lib.compareBytes ka.data.toList kb.data.toList := ⟨_, rfl⟩
  obtain ⟨D, hD⟩ : ∃ D, D = Lib.compareInt qb qa := ⟨_, rfl⟩
  have c1 : ∀ w, Calls Try.prog 63 #[.string ka, .string kb] w fun e w' => e = .returned (.int .i64 C) ∧ w' = w := by rw [hC]; exact strCompare ka kb
  have c2 : ∀ w, Calls Try.prog 64 #[.int .i64 qb, .int .i64 qa] w fun e w' => e = .returned (.int .i64 D) ∧ w' = w := by rw [hD]; exact intCompare qb qa
  obtain ⟨O, hO⟩ : ∃ O, O = if C = 0 then D else C := ⟨_, rfl⟩
  have c3 : ∀ b c w, w.cell? ⟨b, 0, none⟩ = some (.int .i64 C) → w.cell? ⟨b, 1, none⟩ = some (.int .i64 D) → Calls Try.prog 62 #[.slice (some ⟨b, 0, none⟩) 2 c] w fun e w' => e = .returned (.int .i64 O) ∧ w' = w := by
    rw [hO]
    exact fun b c w g0 g1 => cmpOr C D b c w g0 g1
  unfold ordI
  rw [← hC, ← hD, ← hO]
  clear hC hD hO
  go_enter Try.func41, Try.ntmps41
  go_wp2_with fail
  obtain ⟨X, hX⟩ : ∃ X, X = w.heap.size := ⟨_, rfl⟩
  obtain ⟨W, hW⟩ : ∃ W, W = (w.alloc (.cells #[.string ka, .int .i64 qa, .int .i64 da, .string ta, .int .i64 na] 36)).alloc (.cells #[.string kb, .int .i64 qb, .int .i64 db, .string tb, .int .i64 nb] 36) := ⟨_, rfl⟩
  have x0 : W.cell? ⟨X, 0, none⟩ = some (.string ka) := by rw [hW, hX]; simp
  have x1 : W.cell? ⟨X, 1, none⟩ = some (.int .i64 qa) := by rw [hW, hX]; simp
  have y0 : W.cell? ⟨X + 1, 0, none⟩ = some (.string kb) := by rw [hW, hX]; simp
  have y1 : W.cell? ⟨X + 1, 1, none⟩ = some (.int .i64 qb) := by rw [hW, hX]; simp
  have HWW : Hid (W = (w.alloc (.cells #[.string ka, .int .i64 qa, .int .i64 da, .string ta, .int .i64 na] 36)).alloc (.cells #[.string kb, .int .i64 qb, .int .i64 db, .string tb, .int .i64 nb] 36)) := hW
  rw [← hW, ← hX]
  clear hW hX
  have k0 : Below W.heap.size W W.drew := (Below.refl _ W).drew
  have HMK : Hid (∀ w', Below W.heap.size W w' → (w'.cell? ⟨X, 0, none⟩ = some (.string ka) ∧ w'.cell? ⟨X, 1, none⟩ = some (.int .i64 qa) ∧ w'.cell? ⟨X + 1, 0, none⟩ = some (.string kb) ∧ w'.cell? ⟨X + 1, 1, none⟩ = some (.int .i64 qb) ∧ Below W.heap.size W w')) := fun w' k => ⟨cell_later k x0, cell_later k x1, cell_later k y0, cell_later k y1, k⟩
  go_region_held3 (fun w' => w'.cell? ⟨X, 0, none⟩ = some (.string ka) ∧ w'.cell? ⟨X, 1, none⟩ = some (.int .i64 qa) ∧ w'.cell? ⟨X + 1, 0, none⟩ = some (.string kb) ∧ w'.cell? ⟨X + 1, 1, none⟩ = some (.int .i64 qb) ∧ Below W.heap.size W w') (first | exact HMK.out _ k0 | exact HMK.out _ ((Below.refl _ W).alloc (Nat.le_refl _) _).drew | exact HMK.out _ (k0.alloc (Nat.le_refl _) _)) (first
    | (go_at_call 63; refine (c1 _).mono ?_; rintro e w' ⟨rfl, rfl⟩)
    | (go_at_call 64; refine (c2 _).mono ?_; rintro e w' ⟨rfl, rfl⟩)
    | (go_at_call 62; refine (c3 _ _ _ (cell_new0 _ _ _ _ _ (by simp)) (cell_new1 _ _ _ _ _ (by simp))).mono ?_; rintro e w' ⟨rfl, rfl⟩))
  go_wp2
  go_ret
  refine ⟨rfl, 1, #[.cells #[.string ka, .int .i64 qa, .int .i64 da, .string ta, .int .i64 na] 36, .cells #[.string kb, .int .i64 qb, .int .i64 db, .string tb, .int .i64 nb] 36, .cells #[.int .i64 C, .int .i64 D] 3], ?_⟩
  rw [HWW.out]
  rw [alloc_grow, alloc_grow, alloc_grow, grow_grow, grow_grow]
  rfl

theorem ltOf_less (x y : EntD) : ltOf (fun x y : EntD => ordI x.1 x.2.1 y.1 y.2.1) x y = lessB x.1 x.2.1 y.1 y.2.1 := order_less _ _ _ _
theorem less_same {ka kb : ByteArray} {qa qb : Int} (h1 : lessB ka qa kb qb = false) (h2 : lessB kb qb ka qa = false) : ka = kb ∧ qa = qb := by
  have h := lessB_one ka kb qa qb
  rw [h1, h2] at h
  simp at h
  exact h
theorem less_swo : SWO (ltOf (fun x y : EntD => ordI x.1 x.2.1 y.1 y.2.1)) where
  irrefl x := by rw [ltOf_less]; exact lessB_self _ _
  trans x y z h1 h2 := by rw [ltOf_less] at *; exact lessB_trans h1 h2
  ntrans x y z h1 h2 := by
    rw [ltOf_less] at *
    cases h3 : lessB x.1 x.2.1 z.1 z.2.1 with
    | false => rfl
    | true =>
      cases h4 : lessB y.1 y.2.1 x.1 x.2.1 with
      | true => rw [lessB_trans h4 h3] at h2; cases h2
      | false =>
        obtain ⟨e1, e2⟩ := less_same h1 h4
        rw [e1, e2, h2] at h3
        cases h3
end Go.Proofs.Ytkdalacclafihaa

namespace Go.Proofs.Ytkdalacclafihaa
open Go.RowKit Go.Sort

/-- The first stands ahead. -/
def lessE (x y : EntD) : Bool := lessB x.1 x.2.1 y.1 y.2.1
theorem lessE_ntrans {x y z : EntD} (h1 : lessE x y = false) (h2 : lessE y z = false) : lessE x z = false := by
  have := less_swo.ntrans x y z
  rw [ltOf_less, ltOf_less, ltOf_less] at this
  exact this h1 h2
/-- None stands ahead of an earlier one. -/
def Weak (L : List EntD) : Prop := L.Pairwise (fun a b => lessE b a = false)
def Strict (L : List EntD) : Prop := L.Pairwise (fun a b => lessE a b = true)

theorem plE_right (L : List EntD) (e : EntD) : ∀ n p x, plE L e n ≤ p → p < n → L[p]? = some x → lessE e x = true
  | 0, p, x, _, h2, _ => absurd h2 (Nat.not_lt_zero _)
  | n + 1, p, x, h1, h2, h3 => by
    unfold plE at h1
    cases hn : L[n]? with
    | none => rw [hn] at h1; simp at h1; omega
    | some y =>
      rw [hn] at h1
      simp only at h1
      by_cases hl : lessB e.1 e.2.1 y.1 y.2.1 = true
      · rw [if_pos hl] at h1
        by_cases hp : p = n
        · subst hp
          rw [hn] at h3
          cases h3
          exact hl
        · exact plE_right L e n p x h1 (by omega) h3
      · rw [if_neg hl] at h1
        omega
theorem plE_left (L : List EntD) (e : EntD) : ∀ n x, 0 < plE L e n → L[plE L e n - 1]? = some x → n ≤ L.length → lessE e x = false
  | 0, x, h1, _, _ => absurd h1 (Nat.lt_irrefl _)
  | n + 1, x, h1, h2, h3 => by
    have hn : L[n]? = some (L[n]'(by omega)) := List.getElem?_eq_getElem (by omega)
    by_cases hl : lessB e.1 e.2.1 (L[n]'(by omega)).1 (L[n]'(by omega)).2.1 = true
    · have e1 : plE L e (n + 1) = plE L e n := by
        conv => lhs; unfold plE
        simp only [hn, hl, if_true]
      rw [e1] at h1 h2
      exact plE_left L e n x h1 h2 (by omega)
    · have e1 : plE L e (n + 1) = n + 1 := by
        conv => lhs; unfold plE
        simp only [hn, hl]
        simp
      rw [e1] at h2
      simp only [Nat.add_sub_cancel] at h2
      rw [hn] at h2
      cases h2
      simpa [lessE] using hl
theorem weak_put {L : List EntD} {e : EntD} (h : Weak L) : Weak (putE L e) := by
  have hle := plE_le L e L.length
  obtain ⟨k, hk⟩ : ∃ k, k = plE L e L.length := ⟨_, rfl⟩
  have hR : ∀ y ∈ L.drop k, lessE e y = true := by
    intro y hy
    obtain ⟨p, hp, rfl⟩ := List.getElem_of_mem hy
    simp at hp
    refine plE_right L e L.length (k + p) _ (by omega) (by omega) ?_
    rw [List.getElem?_eq_getElem (by omega)]
    simp
  have hL : ∀ x ∈ L.take k, lessE e x = false := by
    intro x hx
    obtain ⟨p, hp, rfl⟩ := List.getElem_of_mem hx
    simp at hp
    have hk1 : 0 < k := by omega
    have hkl : k - 1 < L.length := by omega
    have h1 : lessE e (L[k - 1]'hkl) = false := plE_left L e L.length _ (by omega) (by rw [← hk]; exact List.getElem?_eq_getElem hkl) (Nat.le_refl _)
    simp only [List.getElem_take]
    by_cases hpk : p = k - 1
    · subst hpk; exact h1
    · have h2 := (List.pairwise_iff_getElem.1 h) p (k - 1) (by omega) hkl (by omega)
      exact lessE_ntrans h1 h2
  have hsp : Weak (L.take k ++ L.drop k) := by rw [List.take_append_drop]; exact h
  have hsp' := List.pairwise_append.1 hsp
  unfold putE
  rw [← hk]
  refine List.pairwise_append.2 ⟨hsp'.1, ?_, ?_⟩
  · refine List.pairwise_append.2 ⟨List.pairwise_singleton _ _, hsp'.2.1, ?_⟩
    intro a ha b hb
    simp only [List.mem_singleton] at ha
    subst ha
    exact lessB_asymm (hR b hb)
  · intro a ha b hb
    rcases List.mem_append.1 hb with hb | hb
    · simp only [List.mem_singleton] at hb
      subst hb
      exact hL a ha
    · exact hsp'.2.2 a ha b hb
theorem put_perm (L : List EntD) (e : EntD) : (putE L e).Perm (L ++ [e]) := by
  unfold putE
  generalize plE L e L.length = k
  have h1 : (L.take k ++ ([e] ++ L.drop k)).Perm (L.take k ++ (L.drop k ++ [e])) := List.Perm.append_left _ List.perm_append_comm
  have h2 : L.take k ++ (L.drop k ++ [e]) = L ++ [e] := by rw [← List.append_assoc, List.take_append_drop]
  rw [h2] at h1
  exact h1
theorem sort_both (L : List EntD) : Weak (sortE L) ∧ (sortE L).Perm L := by
  have : ∀ (L A : List EntD), Weak A → Weak (L.foldl putE A) ∧ (L.foldl putE A).Perm (A ++ L) := by
    intro L
    induction L with
    | nil => intro A h; exact ⟨h, by simp⟩
    | cons e r ih =>
      intro A h
      obtain ⟨h1, h2⟩ := ih (putE A e) (weak_put h)
      refine ⟨h1, ?_⟩
      rw [List.foldl_cons]
      refine h2.trans ?_
      have := (put_perm A e).append_right r
      simpa using this
  have h := this L [] List.Pairwise.nil
  simpa [sortE] using h
theorem strict_weak {A B : List EntD} (hA : Strict A) (hB : Weak B) (hP : A.Perm B) : A = B := by
  induction A generalizing B with
  | nil => exact (List.Perm.nil_eq hP)
  | cons a A ih =>
    cases B with
    | nil => exact absurd hP.length_eq (by simp)
    | cons b B =>
      have hab : a = b := by
        by_cases e : a = b
        · exact e
        · exfalso
          have hb : b ∈ a :: A := hP.mem_iff.2 (List.mem_cons_self ..)
          have ha : a ∈ b :: B := hP.mem_iff.1 (List.mem_cons_self ..)
          have hb' : b ∈ A := (List.mem_cons.1 hb).resolve_left (fun h => e h.symm)
          have ha' : a ∈ B := (List.mem_cons.1 ha).resolve_left e
          have h1 := (List.pairwise_cons.1 hA).1 b hb'
          have h2 := (List.pairwise_cons.1 hB).1 a ha'
          rw [h1] at h2
          cases h2
      subst hab
      rw [ih (List.pairwise_cons.1 hA).2 (List.pairwise_cons.1 hB).2 (List.Perm.cons_inv hP)]
theorem right_strict {L : List EntD} (h : rightB L = true) : Strict L := by
  refine List.pairwise_iff_getElem.2 ?_
  intro i j hi hj hij
  exact right_less h hij (List.getElem?_eq_getElem hi) (List.getElem?_eq_getElem hj)
/-- Sorted otherwise, entries are right just if they are so sorted one by one; and then they are the same. -/
theorem sorted_same {L D : List EntD} (hW : Weak D) (hP : D.Perm L) : rightB D = rightB (sortE L) ∧ (rightB D = true → D = sortE L) := by
  obtain ⟨sW, sP⟩ := sort_both L
  have hDS : D.Perm (sortE L) := hP.trans sP.symm
  cases h1 : rightB D with
  | true =>
    have e := strict_weak (right_strict h1) sW hDS
    exact ⟨by rw [← e]; exact h1.symm, fun _ => e⟩
  | false =>
    cases h2 : rightB (sortE L) with
    | false => exact ⟨rfl, fun h => by cases h⟩
    | true =>
      have e := strict_weak (right_strict h2) hW hDS.symm
      rw [← e, h2] at h1
      cases h1
theorem sortE_snoc {L : List EntD} {k : Nat} {e : EntD} (h : L[k]? = some e) : sortE (L.take (k + 1)) = putE (sortE (L.take k)) e := by
  unfold sortE
  rw [List.take_add_one, h]
  simp
theorem sortE_len (L : List EntD) : (sortE L).length = L.length := by
  have : ∀ (L A : List EntD), (L.foldl putE A).length = A.length + L.length := by
    intro L
    induction L with
    | nil => intro A; simp
    | cons e r ih => intro A; rw [List.foldl_cons, ih, putE_len, List.length_cons]; omega
  have h := this L []
  simpa [sortE] using h
end Go.Proofs.Ytkdalacclafihaa

namespace Go.Proofs.Ytkdalacclafihaa

theorem lessE_asym {x y : EntD} (h : lessE x y = true) : lessE y x = false := by
  cases h' : lessE y x with
  | false => rfl
  | true =>
    have h1 : lessE x x = true := lessB_trans h h'
    unfold lessE at h1
    rw [lessB_self] at h1
    cases h1
theorem less_wk : Mg.Wk lessE := ⟨fun _ => lessB_self _ _, fun _ _ h => lessE_asym h, fun _ _ _ h1 h2 => lessE_ntrans h1 h2⟩
theorem put_filter (A : List EntD) (x e : EntD) : (putE A x).filter (Mg.eqv lessE e) = A.filter (Mg.eqv lessE e) ++ [x].filter (Mg.eqv lessE e) := by
  unfold putE
  rw [List.filter_append, List.filter_append]
  have hA : A.filter (Mg.eqv lessE e) = (A.take (plE A x A.length)).filter (Mg.eqv lessE e) ++ (A.drop (plE A x A.length)).filter (Mg.eqv lessE e) := by
    rw [← List.filter_append, List.take_append_drop]
  rw [hA]
  by_cases he : Mg.eqv lessE e x = true
  · have h0 : (A.drop (plE A x A.length)).filter (Mg.eqv lessE e) = [] := List.filter_eq_nil_iff.2 (fun y hy => by
      obtain ⟨k, hk⟩ := List.getElem?_of_mem hy
      rw [List.getElem?_drop] at hk
      have hl := (List.getElem?_eq_some_iff.1 hk).1
      have := plE_right A x A.length _ y (Nat.le_add_right _ k) hl hk
      rw [Mg.eqv_lt less_wk he this]
      simp)
    rw [h0]
    simp
  · have h0 : [x].filter (Mg.eqv lessE e) = [] := by simp [he]
    rw [h0]
    simp
theorem sort_filter (L : List EntD) (e : EntD) : (sortE L).filter (Mg.eqv lessE e) = L.filter (Mg.eqv lessE e) := by
  have key : ∀ (L A : List EntD), (L.foldl putE A).filter (Mg.eqv lessE e) = A.filter (Mg.eqv lessE e) ++ L.filter (Mg.eqv lessE e) := by
    intro L
    induction L with
    | nil => intro A; simp
    | cons x R ih =>
      intro A
      rw [List.foldl_cons, ih, put_filter, List.append_assoc, ← List.filter_append]
      rfl
  have := key L []
  simpa [sortE] using this
theorem sort_asc (L : List EntD) : Mg.Asc lessE (sortE L) := (sort_both L).1
/-- All given out: the document's order. -/
theorem merge_done {flat out : List EntD} {Z : List (List EntD)} (h : Mg.MSt lessE flat out Z) (hH : Mg.HSt [] Z) : out = sortE flat := h.done less_wk hH.none (sort_asc flat) (sort_filter flat)
end Go.Proofs.Ytkdalacclafihaa
