/-
  Rows of entries in memory of the call's own, as the library's stable sort writes into them: two entries exchanged, a stretch put in order.
-/
import Derived.Test.YthhiahjafhkbbaaStabF
import Derived.Test.YthhiahjafhkbbaaStabP
import Derived.Test.YthhiahjafhkbbaaPutE
namespace Go.Proofs.Ythhiahjafhkbbaa
open Go.RowKit Go.Sort

/-- Where a block holds a row of entries, and no more is known of it than its kind and size, the call owns them. -/
theorem own_of_ents {w : World} {base g n c : Nat} {D : List EntD} {cur : Array Value} (hb : base ≤ g) (hg : w.heap[g]? = some (.cells cur 54 (0, 0))) (hs : cur.size = c * 5) (hE : EntsAt w (some ⟨g, 0, none⟩) n c D) : OwnE w base g n c D := by
  have hl := hE.length
  have hr := hE.room
  refine ⟨⟨by rw [flatE_len, hl], Or.inr ⟨g, c, cur, rfl, hb, hg, hr, hE.big, hs, ?_⟩⟩, hl, hE.ents⟩
  apply List.ext_getElem?
  intro j
  by_cases hj : j < n * 5
  · have hj' : j < (flatE D).length := by rw [flatE_len, hl]; exact hj
    have h1 := ents_news hE j _ (List.getElem?_eq_getElem hj')
    rw [Go.WideShapes.add_plain, Nat.zero_add] at h1
    have h2 : w.cell? ⟨g, j, none⟩ = cur[j]? := by simp [World.cell?, hg]
    rw [h2] at h1
    rw [List.getElem?_take, if_pos hj, Array.getElem?_toList, h1, List.getElem?_eq_getElem hj']
  · rw [List.getElem?_eq_none (by simp; omega), List.getElem?_eq_none (by rw [flatE_len, hl]; omega)]
theorem OwnE.block {w : World} {base g n c : Nat} {L : List EntD} (h : OwnE w base g n c L) : ∃ cur, w.heap[g]? = some (.cells cur 54 (0, 0)) ∧ cur.size = c * 5 := by
  rcases h.owns.2 with ⟨hv, _⟩ | ⟨g', cap, cur, hv, _, h2, _, _, h5, _⟩
  · cases hv
  · cases hv
    exact ⟨cur, h2, h5⟩
theorem own_sorted {w : World} {base g n c m : Nat} {os : Array Obj} {L D : List EntD} (hO : OwnE w base g n c L) (hp : D.Perm L) : OwnE (sortWorldK entCells 5 w g 0 m D.toArray os) base g n c D := by
  have hE := hO.entsAt
  have hl : D.length = n := hp.length_eq.trans hO.len
  have hH := holdsK_sortWorldK_c entCells 5 w g 0 L.toArray D.toArray m os (holds_ents hO) hO.lt.2 (by simp [hp.length_eq])
  obtain ⟨cur, hg, hs⟩ := hO.block
  have hlt := hO.lt.2
  refine own_of_ents (cur := putCells id 0 (flatK entCells 5 D.toArray) cur) hO.lt.1 ?_ (by simpa [putCells] using hs) ⟨hl, hE.room, hE.big, fun l hl' => hO.ents l (hp.mem_iff.1 hl'), (fun e => by cases e), (fun x e _ => by cases e; exact ⟨Nat.lt_of_lt_of_le hO.lt.2 (grown_sorted _).size, rfl⟩), (fun x e i hi => by cases e; exact ents_holds hH i hi)⟩
  unfold sortWorldK putRowK
  rw [heap_grow_old _ _ (by simpa [putRow, mapBlock, Sort.ahead] using hlt)]
  simp [putRow, mapBlock, Sort.ahead, Array.getElem?_modify, hg, onCells]

set_option maxRecDepth 100000 in
theorem insPart (base g n c : Nat) (Z X Y : List EntD) (a b : Nat) (w : World) (hO : OwnE w base g n c (Z ++ (X ++ Y))) (ha : a = Z.length) (hb : b = Z.length + X.length) (hn : n ≤ 1048576) :
    Calls Try.prog 98 #[.slice (some ⟨g, 0, none⟩) n c, .int .i64 a, .int .i64 b, .func (.func 52) #[] #[]] w fun e w' => e = .returned (.tuple #[]) ∧ OwnE w' base g n c (Z ++ (cutC X ++ Y)) ∧ w.grownBy w' (some g) := by
  subst ha hb
  have hl := hO.len
  have hsz : (Z ++ (X ++ Y)).toArray.size = n := by simpa using hl
  have hle : Z.length + X.length ≤ n := by rw [← hl]; simp
  have eg : ∀ args w, (callFunc 52 args).run Try.prog w = .ok (.enter 52 args) w := enters_of Try.func52 (by kernel_rfl) rfl
  have hcmp : CmpLays Try.prog 52 #[] entCells 5 seqCf g 0 (Z ++ (X ++ Y)).toArray.size w := fun m os dk _ x y => implSeq x.1 x.2.2.2.1 y.1 y.2.2.2.1 x.2.1 x.2.2.1 x.2.2.2.2 y.2.1 y.2.2.1 y.2.2.2.2 _
  have h := AnyQ.insertionSortCmpFunc Try.insL 5 Try.isAgg54 Try.sizeOf54 entCells (fun _ => rfl) (fun x v hv => by simp [entCells] at hv; rcases hv with rfl | rfl | rfl | rfl | rfl <;> rfl) seqCf 52 #[] g 0 c Z.length (Z.length + X.length) (Z ++ (X ++ Y)).toArray w eg hcmp (holds_ents hO) hO.lt.2 (by omega) (by rw [hsz]; exact hle) (by rw [hsz]; omega)
  rw [hsz, seq_lt, ins_part] at h
  have h' : Calls Try.prog 98 #[.slice (some ⟨g, 0, none⟩) n c, .int .i64 (Z.length : Nat), .int .i64 ((Z.length + X.length : Nat) : Int), .func (.func 52) #[] #[]] w fun e w' => e = .returned (.tuple #[]) ∧ ∃ m os, w' = sortWorldK entCells 5 w g 0 m (Z ++ (cutC X ++ Y)).toArray os := h
  refine h'.mono ?_
  rintro e w' ⟨rfl, m, os, rfl⟩
  exact ⟨rfl, own_sorted hO (((cutC_perm X).append_right Y).append_left Z), grown_sorted _⟩

/-- An entry written over another. -/
def setE (w : World) (g i : Nat) (e : EntD) : World := ((((w.setCell ⟨g, i * 5, none⟩ (.string e.1)).setCell ⟨g, i * 5 + 1, none⟩ (.int .i64 e.2.1)).setCell ⟨g, i * 5 + 2, none⟩ (.int .i64 e.2.2.1)).setCell ⟨g, i * 5 + 3, none⟩ (.string e.2.2.2.1)).setCell ⟨g, i * 5 + 4, none⟩ (.int .i64 e.2.2.2.2)
set_option maxHeartbeats 1000000 in
theorem OwnE.setE {w : World} {base g n c i : Nat} {L : List EntD} {e : EntD} (h : OwnE w base g n c L) (hi : i < n) (hw : EntW e) : OwnE (setE w g i e) base g n c (L.set i e) := by
  obtain ⟨s, q, d, t, nn⟩ := e
  have t0 := h.owns.stored (i * 5) (.string s)
  have t1 := t0.1.stored (i * 5 + 1) (.int .i64 q)
  have t2 := t1.1.stored (i * 5 + 2) (.int .i64 d)
  have t3 := t2.1.stored (i * 5 + 3) (.string t)
  have t4 := t3.1.stored (i * 5 + 4) (.int .i64 nn)
  have hl := h.len
  have hx : (flatE L).length = n * 5 := by rw [flatE_len, hl]
  have hf : ((((((flatE L).set (i * 5) (.string s)).set (i * 5 + 1) (.int .i64 q)).set (i * 5 + 2) (.int .i64 d)).set (i * 5 + 3) (.string t)).set (i * 5 + 4) (.int .i64 nn)) = flatE (L.set i (s, q, d, t, nn)) := row_flat (by simp [hx, hl]) (fun j l hj => by
    by_cases hji : j = i
    · subst hji
      rw [List.getElem?_set_self (by omega)] at hj
      cases hj
      exact rowEnt_same s t q d nn (by omega)
    · rw [List.getElem?_set_ne (Ne.symm hji)] at hj
      exact rowEnt_other (flatE_has L j l hj) hji _ _ _ _ _)
  refine ⟨?_, by simp [hl], fun l hl' => ?_⟩
  · have h4 := t4.1
    rw [hf] at h4
    exact h4
  · rcases List.mem_or_eq_of_mem_set hl' with h1 | h1
    · exact h.ents l h1
    · rw [h1]; exact hw
theorem grown_cellE (w : World) (g o : Nat) (v : Value) : w.grownBy (w.setCell ⟨g, o, none⟩ v) (some g) :=
  ⟨rfl, rfl, rfl, by simp [World.setCell], fun k _ hk => Below.heap_setCell _ _ _ _ (fun e => hk (by rw [e]))⟩
theorem grown_setE (w : World) (g i : Nat) (e : EntD) : w.grownBy (Go.Proofs.Ythhiahjafhkbbaa.setE w g i e) (some g) :=
  grown_trans (grown_trans (grown_trans (grown_trans (grown_cellE _ _ _ _) (grown_cellE _ _ _ _)) (grown_cellE _ _ _ _)) (grown_cellE _ _ _ _)) (grown_cellE _ _ _ _)
theorem set_two (X1 X2 X3 : List EntD) (p q : EntD) : ((X1 ++ p :: (X2 ++ q :: X3)).set X1.length q).set (X1.length + 1 + X2.length) p = X1 ++ q :: (X2 ++ p :: X3) := by
  rw [List.set_append_right _ _ (Nat.le_refl _), Nat.sub_self, List.set_cons_zero, List.set_append_right _ _ (by omega), show X1.length + 1 + X2.length - X1.length = X2.length + 1 by omega, List.set_cons_succ, List.set_append_right _ _ (Nat.le_refl _), Nat.sub_self, List.set_cons_zero]
/-- Two entries exchanged. -/
theorem OwnE.swap {w : World} {base g n c i j : Nat} {X1 X2 X3 : List EntD} {p q : EntD} (h : OwnE w base g n c (X1 ++ p :: (X2 ++ q :: X3))) (hi : i = X1.length) (hj : j = X1.length + 1 + X2.length) : OwnE (Go.Proofs.Ythhiahjafhkbbaa.setE (Go.Proofs.Ythhiahjafhkbbaa.setE w g i q) g j p) base g n c (X1 ++ q :: (X2 ++ p :: X3)) := by
  subst hi hj
  have hl := h.len
  simp at hl
  have h1 := h.setE (i := X1.length) (e := q) (by omega) (h.ents _ (by simp))
  have h2 := h1.setE (i := X1.length + 1 + X2.length) (e := p) (by omega) (h.ents _ (by simp))
  rw [set_two] at h2
  exact h2
end Go.Proofs.Ythhiahjafhkbbaa
