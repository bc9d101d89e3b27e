/-
  Lists of postings in memory of a call's own, marked and held, by walks of the law's Go text.
-/
import Derived.Test.YtfblpbihpmhgjaaDoorBp08
import Derived.Test.YtfblpbihpmhgjaaDoorBp10
import Derived.Test.YtfblpbihpmhgjaaDoorBp07
namespace Go.Proofs.YtfblpbihpmhgjaaDoor
open Go.RowKit

theorem rowsApart {W : World} {b b' e e' s s' n n' : Nat} {v v' : Value} {xs xs' : List Value} (h : W.ownsRow b e s v n xs) (h' : W.ownsRow b' e' s' v' n' xs') (hne : e ≠ e') {k : Nat} (hk : v.ownBlock = some k) : v'.ownBlock ≠ some k := fun hk' => by
  rcases h.2 with ⟨rfl, _⟩ | ⟨g, cap, cur, rfl, _, hg, _⟩
  · cases hk
  · cases hk
    rcases h'.2 with ⟨rfl, _⟩ | ⟨g', cap', cur', rfl, _, hg', _⟩
    · cases hk'
    · cases hk'
      rw [hg] at hg'
      cases hg'
      exact hne rfl
/-- A row whose block is as it was. -/
theorem rowMove {w w' : World} {base e size n : Nat} {v : Value} {xs : List Value} (h : w.ownsRow base e size v n xs) (hm : ∀ g, base ≤ g → g < w.heap.size → w'.heap[g]? = w.heap[g]?) : w'.ownsRow base e size v n xs := by
  refine ⟨h.1, ?_⟩
  rcases h.2 with h' | ⟨g, cap, cur, hv, hb, hg, rest⟩
  · exact Or.inl h'
  · exact Or.inr ⟨g, cap, cur, hv, hb, (hm g hb (Array.getElem?_eq_some_iff.1 hg).1).trans hg, rest⟩

theorem cellTwo (w : World) (x y : Value) (t : TypeId) : ∀ j u, [x, y][j]? = some u → (w.alloc (.cells #[x, y] t)).cell? ((⟨w.heap.size, 0, none⟩ : Addr).add j) = some u := by
  intro j u hj
  rw [Go.WideShapes.add_plain, Nat.zero_add]
  match j, hj with
  | 0, hj => simp at hj; subst hj; simp
  | 1, hj => simp at hj; subst hj; simp
theorem postB_one {id : Int} {L : List LegD} (h : postB id L = true) : 1 ≤ L.length := by
  rcases Nat.lt_or_ge L.length 1 with h1 | h1
  · rw [postB_l0 h1] at h; cases h
  · exact h1
theorem takeB_snoc {B : List PostD} {k : Nat} {p : PostD} (h : B[k]? = some p) : B.take (k + 1) = B.take k ++ [p] := by rw [List.take_add_one, h]; rfl
/-- The cells of a row of postings whose legs lie in the blocks G, each with its room. -/
def rowsB : List (Nat × Nat) → List PostD → List Value
  | gc :: G, p :: B => .int .i64 p.1 :: .slice (some ⟨gc.1, 0, none⟩) p.2.length gc.2 :: rowsB G B
  | _, _ => []
theorem rowsB_at : ∀ {G : List (Nat × Nat)} {B : List PostD} {i : Nat} {gc : Nat × Nat} {p : PostD}, G[i]? = some gc → B[i]? = some p → (rowsB G B)[i * 2]? = some (.int .i64 p.1) ∧ (rowsB G B)[i * 2 + 1]? = some (.slice (some ⟨gc.1, 0, none⟩) p.2.length gc.2)
  | [], _, _, _, _, h, _ => by simp at h
  | _ :: _, [], _, _, _, _, h => by simp at h
  | g :: G, q :: B, 0, gc, p, h1, h2 => by
    simp only [List.getElem?_cons_zero, Option.some.injEq] at h1 h2
    subst h1 h2
    exact ⟨rfl, rfl⟩
  | g :: G, q :: B, i + 1, gc, p, h1, h2 => by
    simp only [List.getElem?_cons_succ] at h1 h2
    have := rowsB_at h1 h2
    rw [show (i + 1) * 2 = i * 2 + 1 + 1 by omega]
    simpa only [rowsB, List.getElem?_cons_succ] using this
theorem rowsB_set : ∀ (G : List (Nat × Nat)) (A R : List PostD) (p : PostD) (k : Int), G.length = (A ++ p :: R).length → (rowsB G (A ++ p :: R)).set (A.length * 2) (.int .i64 k) = rowsB G (A ++ (k, p.2) :: R)
  | [], A, R, p, k, h => by simp at h
  | g :: G, [], R, p, k, h => by simp [rowsB]
  | g :: G, a :: A, R, p, k, h => by
    have := rowsB_set G A R p k (by simpa using h)
    rw [show (a :: A).length * 2 = A.length * 2 + 1 + 1 by simp; omega]
    simp only [List.cons_append, rowsB, List.set_cons_succ, this]
theorem rowsB_same : ∀ (G : List (Nat × Nat)) (A R : List PostD) (id : Int) (L L' : List LegD), L'.length = L.length → rowsB G (A ++ (id, L) :: R) = rowsB G (A ++ (id, L') :: R)
  | [], A, R, id, L, L', h => by cases A <;> simp [rowsB]
  | g :: G, [], R, id, L, L', h => by simp [rowsB, h]
  | g :: G, a :: A, R, id, L, L', h => by simp only [List.cons_append, rowsB, rowsB_same G A R id L L' h]
theorem rowsB_snoc : ∀ (G : List (Nat × Nat)) (B : List PostD) (gc : Nat × Nat) (p : PostD), G.length = B.length → rowsB (G ++ [gc]) (B ++ [p]) = rowsB G B ++ [.int .i64 p.1, .slice (some ⟨gc.1, 0, none⟩) p.2.length gc.2]
  | [], [], gc, p, _ => rfl
  | [], _ :: _, _, _, h => by simp at h
  | _ :: _, [], _, _, h => by simp at h
  | g :: G, b :: B, gc, p, h => by simp only [List.cons_append, rowsB, rowsB_snoc G B gc p (by simpa using h)]

/-- The postings B lie in memory of the call's own: v is their row, the legs of posting number i lie in block G[i]. -/
structure PostsZ (w : World) (base : Nat) (v : Value) (G : List (Nat × Nat)) (B : List PostD) : Prop where
  row : w.ownsRow base 29 2 v B.length (rowsB G B)
  len : G.length = B.length
  own : ∀ (i : Nat) (gc : Nat × Nat) (p : PostD), G[i]? = some gc → B[i]? = some p → w.ownsRow base 69 3 (.slice (some ⟨gc.1, 0, none⟩) p.2.length gc.2) p.2.length (flat p.2)
  nd : ∀ (i j : Nat) (gc gd : Nat × Nat), G[i]? = some gc → G[j]? = some gd → gc.1 = gd.1 → i = j
theorem PostsZ.below {w w' : World} {base : Nat} {v : Value} {G : List (Nat × Nat)} {B : List PostD} (h : PostsZ w base v G B) (hb : Below w.heap.size w w') : PostsZ w' base v G B :=
  ⟨rowKb h.row hb, h.len, fun i g p h1 h2 => rowKb (h.own i g p h1 h2) hb, h.nd⟩
theorem PostsZ.off {w : World} {base : Nat} {v : Value} {G : List (Nat × Nat)} {B : List PostD} (h : PostsZ w base v G B) {i : Nat} {gc : Nat × Nat} {p : PostD} (h1 : G[i]? = some gc) (h2 : B[i]? = some p) : v.ownBlock ≠ some gc.1 :=
  rowsApart (h.own i gc p h1 h2) h.row (by decide) rfl
theorem PostsZ.at {w : World} {base : Nat} {v : Value} {G : List (Nat × Nat)} {B : List PostD} (h : PostsZ w base v G B) {i : Nat} (hi : i < B.length) : ∃ gc p, G[i]? = some gc ∧ B[i]? = some p :=
  ⟨_, _, List.getElem?_eq_getElem (by rw [h.len]; exact hi), List.getElem?_eq_getElem hi⟩
theorem PostsZ.form {w : World} {base : Nat} {v : Value} {G : List (Nat × Nat)} {B : List PostD} (h : PostsZ w base v G B) : ∃ a c, v = .slice a B.length c := by
  rcases h.row.2 with ⟨hv, h0⟩ | ⟨g, cap, cur, hv, _⟩
  · exact ⟨none, 0, by rw [hv, h0]⟩
  · exact ⟨_, _, hv⟩
theorem PostsZ.head {w : World} {base : Nat} {a : Option Addr} {n c : Nat} {G : List (Nat × Nat)} {B : List PostD} (h : PostsZ w base (.slice a n c) G B) (hn : 1 ≤ n) : ∃ b, a = some ⟨b, 0, none⟩ ∧ base ≤ b ∧ b < w.heap.size := by
  rcases h.row.2 with ⟨hv, h0⟩ | ⟨g, cap, cur, hv, _⟩
  · cases hv
    omega
  · cases hv
    exact ⟨g, rfl, h.row.lt g rfl⟩
theorem PostsZ.postsAt {w : World} {base : Nat} {a : Option Addr} {n c : Nat} {G : List (Nat × Nat)} {B : List PostD} (h : PostsZ w base (.slice a n c) G B) (hn : B.length = n) (hw : ∀ p ∈ B, (Lit.int .i64 p.1).wf = true ∧ ∀ l ∈ p.2, LegW l) : PostsAt w a n c B := by
  have hrow := h.row
  rcases hrow.2 with ⟨hv, h0⟩ | ⟨g, cap, cur, hv, h1, h2, h3, h4, h5⟩
  · have hP : B = [] := List.length_eq_zero_iff.1 h0
    subst hP
    cases hv
    exact ⟨rfl, Nat.le_refl _, by unfold maxLen; omega, fun _ => rfl, fun x e => (by cases e), fun x e => (by cases e)⟩
  · cases hv
    refine ⟨rfl, h3, h4, fun e => (by cases e), fun x e _ => ?_, fun x e i hi => ?_⟩
    · cases e
      exact ⟨(h.row.lt g rfl).2, rfl⟩
    · cases e
      obtain ⟨gc, p, h5, h6⟩ := h.at hi
      have hp : B[i] = p := Option.some.inj ((List.getElem?_eq_getElem hi).symm.trans h6)
      obtain ⟨r0, r1⟩ := rowsB_at h5 h6
      have hw' := hw p (List.mem_of_getElem? h6)
      rw [hp]
      refine ⟨hw'.1, _, _, _, ?_, ?_, legsAt_of_row (h.own i gc p h5 h6) rfl hw'.2 (fun j l hl => flat_has _ _ _ hl)⟩
      · have hc := h.row.cellAt (i * 2) (by omega)
        rw [r0] at hc
        simpa using hc
      · have hc := h.row.cellAt (i * 2 + 1) (by omega)
        rw [r1] at hc
        simpa using hc

/-- All blocks from its base on are as they were. -/
theorem PostsZ.move {w w' : World} {base : Nat} {v : Value} {G : List (Nat × Nat)} {B : List PostD} (h : PostsZ w base v G B) (hm : ∀ g, base ≤ g → g < w.heap.size → w'.heap[g]? = w.heap[g]?) : PostsZ w' base v G B :=
  ⟨rowMove h.row hm, h.len, fun i g p h1 h2 => rowMove (h.own i g p h1 h2) hm, h.nd⟩
theorem PostsZ.nilZ (w : World) (base : Nat) : PostsZ w base (.slice none 0 0) [] [] := ⟨World.ownsRow_nil _ _ _ _, rfl, fun i g p h => by simp at h, fun i j g g' h => by simp at h⟩
theorem PostsZ.old {w : World} {base : Nat} {v : Value} {G : List (Nat × Nat)} {B : List PostD} (h : PostsZ w base v G B) : ∀ x ∈ G, x.1 < w.heap.size := by
  intro x hx
  obtain ⟨i, hi⟩ := List.getElem?_of_mem hx
  obtain ⟨_, p, _, hp⟩ := h.at (i := i) (by rw [← h.len]; exact (List.getElem?_eq_some_iff.1 hi).1)
  exact ((h.own i x p hi hp).lt x.1 rfl).2
/-- A posting is put behind the others. -/
theorem PostsZ.push {w w' : World} {base g c : Nat} {v v' : Value} {G : List (Nat × Nat)} {B : List PostD} {id : Int} {L : List LegD} (h : PostsZ w base v G B) (hO : w.ownsRow base 69 3 (.slice (some ⟨g, 0, none⟩) L.length c) L.length (flat L)) (hnew : ∀ x ∈ G, x.1 ≠ g)
    (ho : w'.ownsRow base 29 2 v' (B.length + 1) (rowsB G B ++ [.int .i64 id, .slice (some ⟨g, 0, none⟩) L.length c])) (hg : w.grownBy w' v.ownBlock) : PostsZ w' base v' (G ++ [(g, c)]) (B ++ [(id, L)]) := by
  have hgO : v.ownBlock ≠ some g := rowsApart hO h.row (by decide) rfl
  refine ⟨by rw [rowsB_snoc _ _ _ _ h.len, List.length_append]; exact ho, by simp [h.len], fun i gc q h1 h2 => ?_, fun i j q r h1 h2 hqr => ?_⟩
  · by_cases hi : i < B.length
    · rw [List.getElem?_append_left (by rw [h.len]; exact hi)] at h1
      rw [List.getElem?_append_left hi] at h2
      exact (h.own i gc q h1 h2).kept hg (.inr (fun e => h.off h1 h2 e.symm))
    · have hi2 := (List.getElem?_eq_some_iff.1 h2).1
      rw [List.length_append] at hi2
      have hi3 : i = B.length := by simp at hi2; omega
      subst hi3
      rw [List.getElem?_append_right (Nat.le_refl _)] at h2
      rw [← h.len, List.getElem?_append_right (Nat.le_refl _)] at h1
      simp at h1 h2
      subst h1
      subst h2
      exact hO.kept hg (.inr (fun e => hgO e.symm))
  · have hlt : ∀ {x : Nat} {q : Nat × Nat}, (G ++ [(g, c)])[x]? = some q → x < G.length ∨ x = G.length := fun {x q} hx => by
      have := (List.getElem?_eq_some_iff.1 hx).1
      simp at this
      omega
    rcases hlt h1 with a1 | a1 <;> rcases hlt h2 with a2 | a2
    · rw [List.getElem?_append_left a1] at h1
      rw [List.getElem?_append_left a2] at h2
      exact h.nd i j q r h1 h2 hqr
    · exfalso
      rw [List.getElem?_append_left a1] at h1
      subst a2
      simp at h2
      subst h2
      exact hnew _ (List.mem_of_getElem? h1) hqr
    · exfalso
      rw [List.getElem?_append_left a2] at h2
      subst a1
      simp at h1
      subst h1
      exact hnew _ (List.mem_of_getElem? h2) hqr.symm
    · omega

/-- A posting's number is written anew. -/
theorem PostsZ.setId {w : World} {base b n c : Nat} {G : List (Nat × Nat)} {A R : List PostD} {p : PostD} (h : PostsZ w base (.slice (some ⟨b, 0, none⟩) n c) G (A ++ p :: R)) (k : Int) : PostsZ (w.setCell ⟨b, A.length * 2, none⟩ (.int .i64 k)) base (.slice (some ⟨b, 0, none⟩) n c) G (A ++ (k, p.2) :: R) := by
  refine ⟨?_, by simpa using h.len, fun i gc q h1 h2 => ?_, h.nd⟩
  · have hn : (A ++ p :: R).length = n := by
      obtain ⟨a', c', e⟩ := h.form
      cases e
      rfl
    have h0 := h.row
    rw [hn] at h0
    have h1 := h0.stored (A.length * 2) (.int .i64 k)
    rw [rowsB_set G A R p k h.len] at h1
    have e : (A ++ (k, p.2) :: R).length = n := by rw [← hn]; simp
    rw [e]
    exact h1.1
  · have hq : ∃ q', (A ++ p :: R)[i]? = some q' ∧ q'.2 = q.2 := by
      by_cases hi : i = A.length
      · subst hi
        have h3 : (A ++ (k, p.2) :: R)[A.length]? = some (k, p.2) := by simp
        rw [h3] at h2
        cases h2
        exact ⟨p, by simp, rfl⟩
      · refine ⟨q, ?_, rfl⟩
        rcases Nat.lt_or_gt_of_ne hi with h4 | h4
        · rw [List.getElem?_append_left h4] at h2 ⊢
          exact h2
        · rw [List.getElem?_append_right (by omega)] at h2 ⊢
          obtain ⟨m, hm⟩ : ∃ m, i - A.length = m + 1 := ⟨i - A.length - 1, by omega⟩
          rw [hm] at h2 ⊢
          simpa using h2
    obtain ⟨q', hq1, hq2⟩ := hq
    have hne := h.off h1 hq1
    have := h.own i gc q' h1 hq1
    rw [hq2] at this
    exact this.kept (gSet w b (A.length * 2) (.int .i64 k)) (.inr (fun e => hne e.symm))
/-- A posting's legs are written anew. -/
theorem PostsZ.setLegs {w w' : World} {base : Nat} {v : Value} {G : List (Nat × Nat)} {A R : List PostD} {id : Int} {L L' : List LegD} {gc : Nat × Nat} (h : PostsZ w base v G (A ++ (id, L) :: R)) (hg : G[A.length]? = some gc) (hw : w.grownBy w' (some gc.1)) (hL : L'.length = L.length) (hO : w'.ownsRow base 69 3 (.slice (some ⟨gc.1, 0, none⟩) L.length gc.2) L.length (flat L')) : PostsZ w' base v G (A ++ (id, L') :: R) := by
  have hat : (A ++ (id, L) :: R)[A.length]? = some (id, L) := by simp
  have hoff := h.off hg hat
  refine ⟨?_, by simpa using h.len, fun i gd q h1 h2 => ?_, h.nd⟩
  · have e : (A ++ (id, L') :: R).length = (A ++ (id, L) :: R).length := by simp
    rw [e, ← rowsB_same G A R id L L' hL]
    exact h.row.kept hw (.inr hoff)
  · by_cases hi : i = A.length
    · subst hi
      have h3 : (A ++ (id, L') :: R)[A.length]? = some (id, L') := by simp
      rw [h3] at h2
      cases h2
      rw [hg] at h1
      cases h1
      simp only [hL]
      exact hO
    · have hne : gd.1 ≠ gc.1 := fun e => hi (h.nd i A.length gd gc h1 hg e)
      have h2' : (A ++ (id, L) :: R)[i]? = some q := by
        rcases Nat.lt_or_gt_of_ne hi with h4 | h4
        · rw [List.getElem?_append_left h4] at h2 ⊢
          exact h2
        · rw [List.getElem?_append_right (by omega)] at h2 ⊢
          obtain ⟨m, hm⟩ : ∃ m, i - A.length = m + 1 := ⟨i - A.length - 1, by omega⟩
          rw [hm] at h2 ⊢
          simpa using h2
      exact (h.own i gd q h1 h2').kept hw (.inr (fun e => hne (Option.some.inj e)))

/-- How many marks postings take. -/
def szB : List PostD → Nat
  | [] => 0
  | p :: r => 1 + 3 * p.2.length + szB r
theorem szB_append : ∀ A R : List PostD, szB (A ++ R) = szB A + szB R
  | [], R => by simp [szB]
  | p :: A, R => by simp only [List.cons_append, szB, szB_append A R]; omega
/-- The postings as the law marks them, from k on. -/
def mrkB : Nat → List PostD → List PostD
  | _, [] => []
  | k, p :: r => ((k : Int), markLs (k + 1) p.2.length) :: mrkB (k + 1 + 3 * p.2.length) r
theorem mrkB_append : ∀ (A R : List PostD) (k : Nat), mrkB k (A ++ R) = mrkB k A ++ mrkB (k + szB A) R
  | [], R, k => by simp [mrkB, szB]
  | p :: A, R, k => by
    simp only [List.cons_append, mrkB, mrkB_append A R, szB, Nat.add_assoc]
theorem mrkB_len : ∀ (A : List PostD) (k : Nat), (mrkB k A).length = A.length
  | [], _ => rfl
  | p :: A, k => by simp [mrkB, mrkB_len A]
theorem szB_snoc {B : List PostD} {k : Nat} {p : PostD} (h : B[k]? = some p) : szB (B.take (k + 1)) = szB (B.take k) + 1 + 3 * p.2.length := by
  rw [List.take_add_one, h, szB_append]
  simp [szB]
  omega
theorem szB_le {B : List PostD} {k : Nat} {p : PostD} (h : B[k]? = some p) : szB (B.take k) + 1 + 3 * p.2.length ≤ szB B := by
  have h3 : szB B = szB (B.take (k + 1)) + szB (B.drop (k + 1)) := by rw [← szB_append, List.take_append_drop]
  rw [← szB_snoc h, h3]
  omega
theorem dropB_cons {B : List PostD} {k : Nat} {p : PostD} (h : B[k]? = some p) : B.drop k = p :: B.drop (k + 1) := by
  obtain ⟨h1, h2⟩ := List.getElem?_eq_some_iff.1 h
  rw [List.drop_eq_getElem_cons h1, h2]
theorem mrkB_next {B : List PostD} {k j : Nat} {p : PostD} (h : B[j]? = some p) : mrkB k (B.take (j + 1)) = mrkB k (B.take j) ++ [(((k + szB (B.take j) : Nat) : Int), markLs (k + szB (B.take j) + 1) p.2.length)] := by
  rw [List.take_add_one, h, Option.toList_some, mrkB_append]
  rfl
theorem mrkB_at {B : List PostD} {k j : Nat} {p : PostD} (h : B[j]? = some p) : (mrkB k B)[j]? = some (((k + szB (B.take j) : Nat) : Int), markLs (k + szB (B.take j) + 1) p.2.length) := by
  have h0 : B = B.take (j + 1) ++ B.drop (j + 1) := (List.take_append_drop _ _).symm
  have hj := (List.getElem?_eq_some_iff.1 h).1
  rw [h0, mrkB_append, mrkB_next h, List.append_assoc, List.getElem?_append_right (by rw [mrkB_len, List.length_take]; omega), mrkB_len, List.length_take, show j - min j B.length = 0 by omega]
  rw [← h0]
  simp

set_option maxRecDepth 100000 in
set_option maxHeartbeats 1600000 in
theorem markB_any (base : Nat) (v : Value) (G : List (Nat × Nat)) (B : List PostD) (k : Nat) (w : World) (hZ : PostsZ w base v G B) (hk : 1 ≤ k) (hn : k + szB B ≤ 1000000000) (hP : B.length ≤ 1048576) (hbw : base ≤ w.heap.size) :
    Calls Tryd.prog 43 #[v, .int .i64 k] w fun e w' => e = .returned (.int .i64 ((k + szB B : Nat) : Int)) ∧ PostsZ w' base v G (mrkB k B) ∧ Below base w w' := by
  obtain ⟨a, c, rfl⟩ := hZ.form
  obtain ⟨n, hnP⟩ : ∃ n, n = B.length := ⟨_, rfl⟩
  have HNP : Hid (n = B.length) := hnP
  have HNB : Hid (k + szB B ≤ 1000000000) := hn
  obtain ⟨T, hT⟩ : ∃ T, T = szB B := ⟨_, rfl⟩
  have HTT : Hid (T = szB B) := hT
  rw [← hnP] at hZ hP ⊢
  rw [← hT]
  have HZ : Hid (PostsZ w base (.slice a n c) G B) := hZ
  have HBW : Hid (base ≤ w.heap.size) := hbw
  clear hZ hnP hT hn hbw
  go_enter Tryd.func43, Tryd.ntmps43
  go_wp2
  go_loopw [1, 5] (fun kv iv wr => ∃ (j K : Nat), j ≤ n ∧ iv = .int .i64 j ∧ kv = .int .i64 (K : Int) ∧ K = k + szB (B.take j) ∧ PostsZ wr base (.slice a n c) G (mrkB k (B.take j) ++ B.drop j) ∧ Below base w wr) (fun _ iv _ => n - (intOf iv).toNat)
  case atStart => exact ⟨0, k, Nat.zero_le _, rfl, rfl, by simp [szB], by simpa [mrkB] using HZ.out, Below.refl _ _⟩
  case round =>
    obtain ⟨j, K, hj, rfl, rfl, hK, hZr, hb⟩ := hrel
    have HK : Hid (K = k + szB (B.take j)) := hK
    have HZR : Hid (PostsZ wr base (.slice a n c) G (mrkB k (B.take j) ++ B.drop j)) := hZr
    have HB : Hid (Below base w wr) := hb
    clear hK hb
    by_cases hlt : j < n
    · have hltI : (j : Int) < (n : Int) := by omega
      obtain ⟨p, hp⟩ : ∃ p, B[j]? = some p := ⟨_, List.getElem?_eq_getElem (by have := HNP.out; omega)⟩
      have HPJ : Hid (B[j]? = some p) := hp
      have HAL : Hid ((mrkB k (B.take j)).length = j) := by
        show _ = _
        rw [mrkB_len, List.length_take]
        have := HNP.out
        omega
      have hZ2 := hZr
      rw [dropB_cons hp] at hZ2
      obtain ⟨b, rfl, hbb, hbl⟩ := hZr.head (by omega)
      have hat : (mrkB k (B.take j) ++ p :: B.drop (j + 1))[j]? = some p := by
        rw [List.getElem?_append_right (by rw [HAL.out]; exact Nat.le_refl _), HAL.out]
        simp
      obtain ⟨gc, _, hg, _⟩ := hZ2.at (i := j) (List.getElem?_eq_some_iff.1 hat).1
      have HG : Hid (G[j]? = some gc) := hg
      have hlen : (mrkB k (B.take j) ++ p :: B.drop (j + 1)).length = n := by rw [← dropB_cons hp, List.length_append, HAL.out, List.length_drop]; have := HNP.out; omega
      have hrow := hZ2.row
      rw [hlen] at hrow
      obtain ⟨r0, r1⟩ := rowsB_at hg hat
      have c0 : wr.cell? ⟨b, j * 2, none⟩ = some (.int .i64 p.1) := (hrow.cellAt _ (by omega)).trans r0
      have f0 : wr.frozen? ⟨b, j * 2, none⟩ = false := hrow.frozenAt _
      have hle : K + 1 + 3 * p.2.length ≤ 1000000000 := by
        have h1 := HK.out
        have h2 := HNB.out
        have h3 := szB_le hp
        omega
      have hk1 : 1 ≤ K := by have h1 := HK.out; omega
      obtain ⟨W1, hW1⟩ : ∃ W1, W1 = wr.setCell ⟨b, j * 2, none⟩ (.int .i64 (K : Int)) := ⟨_, rfl⟩
      have hZ1 := hZ2.setId (K : Int)
      rw [HAL.out, ← hW1] at hZ1
      have HZ1 : Hid (PostsZ W1 base (.slice (some ⟨b, 0, none⟩) n c) G (mrkB k (B.take j) ++ ((K : Int), p.2) :: B.drop (j + 1))) := hZ1
      have hat1 : (mrkB k (B.take j) ++ ((K : Int), p.2) :: B.drop (j + 1))[j]? = some ((K : Int), p.2) := by
        rw [List.getElem?_append_right (by rw [HAL.out]; exact Nat.le_refl _), HAL.out]
        simp
      have hO := hZ1.own j gc _ hg hat1
      have HOG : Hid (base ≤ gc.1) := (hO.lt gc.1 rfl).1
      have hrow1 := hZ1.row
      have hlen1 : (mrkB k (B.take j) ++ ((K : Int), p.2) :: B.drop (j + 1)).length = n := by rw [← hlen]; simp
      rw [hlen1] at hrow1
      obtain ⟨_, s1⟩ := rowsB_at hg hat1
      have c1 : W1.cell? ⟨b, j * 2 + 1, none⟩ = some (.slice (some ⟨gc.1, 0, none⟩) p.2.length gc.2) := (hrow1.cellAt _ (by omega)).trans s1
      have hcast : (K : Int) + 1 = ((K + 1 : Nat) : Int) := by omega
      have CM : Hid (Calls Tryd.prog 56 #[.slice (some ⟨gc.1, 0, none⟩) p.2.length gc.2, .int .i64 ((K : Int) + 1)] W1 fun e w' => e = .returned (.int .i64 ((K + 1 + 3 * p.2.length : Nat) : Int)) ∧ w'.ownsRow base 69 3 (.slice (some ⟨gc.1, 0, none⟩) p.2.length gc.2) p.2.length (flat (markLs (K + 1) p.2.length)) ∧ Below base W1 w' ∧ W1.grownBy w' (some gc.1)) := by
        show Calls _ _ _ _ _
        rw [hcast]
        exact markLs_some base gc.1 p.2.length gc.2 (K + 1) p.2 W1 hO (by omega) (by omega)
      have HB1 : Hid (Below base w W1) := by rw [hW1]; exact HB.out.setCell (p := ⟨b, j * 2, none⟩) hbb _
      clear hO hp hat hg hZ2 hZr hrow r0 r1 hZ1 hrow1 s1 hat1 hlen hlen1 hcast
      obtain ⟨LL, hLL⟩ : ∃ LL, p.2.length = LL := ⟨_, rfl⟩
      have HLL : Hid (p.2.length = LL) := hLL
      rw [hLL] at c1 hle
      have CM' : Hid (Calls Tryd.prog 56 #[.slice (some ⟨gc.1, 0, none⟩) LL gc.2, .int .i64 ((K : Int) + 1)] W1 fun e w' => e = .returned (.int .i64 ((K + 1 + 3 * LL : Nat) : Int)) ∧ w'.ownsRow base 69 3 (.slice (some ⟨gc.1, 0, none⟩) LL gc.2) LL (flat (markLs (K + 1) LL)) ∧ Below base W1 w' ∧ W1.grownBy w' (some gc.1)) := by rw [← hLL]; exact CM
      clear hLL CM
      have hbl1 : b < W1.heap.size := World.block_lt_of_cell? _ _ c1
      go_upto_region 6 with fail
      rw [← hW1]
      clear hW1 c0 f0
      go_wp2_with fail
      refine CM'.out.mono ?_
      rintro e w2 ⟨rfl, hO2, hb2, hg2⟩
      obtain ⟨K2, hK2⟩ : ∃ K2 : Nat, K2 = K + 1 + 3 * LL := ⟨_, rfl⟩
      have HK2 : Hid (K2 = K + 1 + 3 * LL) := hK2
      rw [← hK2]
      have HO2 : Hid (w2.ownsRow base 69 3 (.slice (some ⟨gc.1, 0, none⟩) LL gc.2) LL (flat (markLs (K + 1) LL))) := hO2
      have HG2 : Hid (W1.grownBy w2 (some gc.1)) := hg2
      have HB2 : Hid (Below base W1 w2) := hb2
      clear hK2 hg2 CM' hO2 hb2
      go_wp2
      go_roundw
      case rel =>
        refine ⟨j + 1, K2, by omega, by go_num, rfl, ?_, ?_, HB1.out.trans HB2.out⟩
        · have h1 := HK.out
          have h2 := HK2.out
          have h3 := HLL.out
          rw [szB_snoc HPJ.out]
          omega
        · have h3 := HLL.out
          have h4 := HZ1.out.setLegs (L' := markLs (K + 1) LL) (by rw [HAL.out]; exact HG.out) HG2.out (by rw [markLs_len, h3]) (by rw [h3]; exact HO2.out)
          rw [mrkB_next HPJ.out, ← HK.out, List.append_assoc, h3]
          exact h4
      case measure => simp [intOf]; omega
    · have hltI : ¬ (j : Int) < (n : Int) := by omega
      have HRES : Hid (PostsZ wr base (.slice a n c) G (mrkB k B)) := by
        have h1 := HZR.out
        have h2 := HNP.out
        rw [List.take_of_length_le (by omega), List.drop_of_length_le (by omega), List.append_nil] at h1
        exact h1
      have HKE : Hid (K = k + T) := by
        have h1 := HK.out
        have h2 := HNP.out
        rw [List.take_of_length_le (by omega), ← HTT.out] at h1
        exact h1
      clear hZr
      go_wp2
      go_ret
      exact ⟨by rw [HKE.out]; simp, HRES.out, HB.out⟩

set_option maxRecDepth 100000 in
set_option maxHeartbeats 1600000 in
theorem heldB_any (base : Nat) (v : Value) (G : List (Nat × Nat)) (B : List PostD) (k : Nat) (w : World) (hZ : PostsZ w base v G (mrkB k B)) (hk : 1 ≤ k) (hn : k + szB B ≤ 1000000000) (hP : B.length ≤ 1048576) :
    Calls Tryd.prog 44 #[v, .int .i64 k] w fun e w' => e = .returned (.int .i64 ((k + szB B : Nat) : Int)) ∧ Below w.heap.size w w' := by
  obtain ⟨a, c, rfl⟩ := hZ.form
  obtain ⟨n, hnP⟩ : ∃ n, n = B.length := ⟨_, rfl⟩
  have HNP : Hid (n = B.length) := hnP
  have HNB : Hid (k + szB B ≤ 1000000000) := hn
  obtain ⟨T, hT⟩ : ∃ T, T = szB B := ⟨_, rfl⟩
  have HTT : Hid (T = szB B) := hT
  rw [mrkB_len, ← hnP] at hZ ⊢
  rw [← hT]
  rw [← hnP] at hP
  have HZ : Hid (PostsZ w base (.slice a n c) G (mrkB k B)) := hZ
  clear hZ hnP hT hn
  go_enter Tryd.func44, Tryd.ntmps44
  go_wp2
  go_loopw [1, 5] (fun kv iv wr => ∃ (j K : Nat), j ≤ n ∧ iv = .int .i64 j ∧ kv = .int .i64 (K : Int) ∧ K = k + szB (B.take j) ∧ Below w.heap.size w wr) (fun _ iv _ => n - (intOf iv).toNat)
  case atStart => exact ⟨0, k, Nat.zero_le _, rfl, rfl, by simp [szB], Below.refl _ _⟩
  case round =>
    obtain ⟨j, K, hj, rfl, rfl, hK, hb⟩ := hrel
    have HK : Hid (K = k + szB (B.take j)) := hK
    have HB : Hid (Below w.heap.size w wr) := hb
    have hZr := HZ.out.below hb
    clear hK hb
    by_cases hlt : j < n
    · have hltI : (j : Int) < (n : Int) := by omega
      obtain ⟨p, hp⟩ : ∃ p, B[j]? = some p := ⟨_, List.getElem?_eq_getElem (by have := HNP.out; omega)⟩
      have HPJ : Hid (B[j]? = some p) := hp
      have hat := mrkB_at (k := k) hp
      rw [← HK.out] at hat
      obtain ⟨gc, _, hg, _⟩ := hZr.at (i := j) (List.getElem?_eq_some_iff.1 hat).1
      have hO := hZr.own j gc _ hg hat
      rw [markLs_len] at hO
      obtain ⟨b, rfl, hbb, hbl⟩ := hZr.head (by omega)
      have hrow := hZr.row
      rw [mrkB_len, ← HNP.out] at hrow
      obtain ⟨r0, r1⟩ := rowsB_at hg hat
      have c0 : wr.cell? ⟨b, j * 2, none⟩ = some (.int .i64 (K : Int)) := (hrow.cellAt _ (by omega)).trans r0
      have c1 : wr.cell? ⟨b, j * 2 + 1, none⟩ = some (.slice (some ⟨gc.1, 0, none⟩) p.2.length gc.2) := by
        have := (hrow.cellAt (j * 2 + 1) (by omega)).trans r1
        rw [markLs_len] at this
        exact this
      have hle : K + 1 + 3 * p.2.length ≤ 1000000000 := by
        have h1 := HK.out
        have h2 := HNB.out
        have h3 := szB_le hp
        omega
      have hk1 : 1 ≤ K := by have h1 := HK.out; omega
      have hcast : (K : Int) + 1 = ((K + 1 : Nat) : Int) := by omega
      have CM : Hid (Calls Tryd.prog 57 #[.slice (some ⟨gc.1, 0, none⟩) p.2.length gc.2, .int .i64 ((K : Int) + 1)] wr fun e w' => e = .returned (.int .i64 ((K + 1 + 3 * p.2.length : Nat) : Int)) ∧ Below wr.heap.size wr w') := by
        show Calls _ _ _ _ _
        rw [hcast]
        exact heldLs_some base gc.1 p.2.length gc.2 (K + 1) wr hO (by omega) (by omega)
      clear hO hp hat hg hZr hrow r0 r1 hcast
      obtain ⟨LL, hLL⟩ : ∃ LL, p.2.length = LL := ⟨_, rfl⟩
      have HLL : Hid (p.2.length = LL) := hLL
      rw [hLL] at c1 hle
      have CM' : Hid (Calls Tryd.prog 57 #[.slice (some ⟨gc.1, 0, none⟩) LL gc.2, .int .i64 ((K : Int) + 1)] wr fun e w' => e = .returned (.int .i64 ((K + 1 + 3 * LL : Nat) : Int)) ∧ Below wr.heap.size wr w') := by rw [← hLL]; exact CM
      clear hLL CM
      go_wp2_with fail
      refine CM'.out.mono ?_
      rintro e w2 ⟨rfl, hb2⟩
      obtain ⟨K2, hK2⟩ : ∃ K2 : Nat, K2 = K + 1 + 3 * LL := ⟨_, rfl⟩
      have HK2 : Hid (K2 = K + 1 + 3 * LL) := hK2
      rw [← hK2]
      have HB2 : Hid (Below wr.heap.size wr w2) := hb2
      have hK0 : ¬ (K2 : Int) < 0 := by omega
      clear hK2 hb2 CM'
      go_wp2
      go_roundw
      case rel =>
        refine ⟨j + 1, K2, by omega, by go_num, rfl, ?_, HB.out.trans (HB2.out.mono HB.out.size)⟩
        have h1 := HK.out
        have h2 := HK2.out
        have h3 := HLL.out
        rw [szB_snoc HPJ.out]
        omega
      case measure => simp [intOf]; omega
    · have hltI : ¬ (j : Int) < (n : Int) := by omega
      have HKE : Hid (K = k + T) := by
        have h1 := HK.out
        have h2 := HNP.out
        rw [List.take_of_length_le (by omega), ← HTT.out] at h1
        exact h1
      clear hZr
      go_wp2
      go_ret
      exact ⟨by rw [HKE.out]; simp, HB.out⟩

end Go.Proofs.YtfblpbihpmhgjaaDoor
