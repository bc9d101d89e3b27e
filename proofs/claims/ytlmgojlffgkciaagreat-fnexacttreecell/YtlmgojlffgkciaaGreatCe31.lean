/-
  Rows of entries in memory of the call's own, as the library's stable sort writes into them: two entries exchanged, a stretch put in order.
  The library's exchange of two stretches of a row, and its turning round of two neighbouring stretches, by walks of their Go text.
-/
import Derived.Deep.RegionLaw
import Derived.Deep.RegionHeld3
import Derived.Test.YtlmgojlffgkciaaGreatCe29
import Derived.Test.YtlmgojlffgkciaaGreatCe30
import Derived.Test.YtlmgojlffgkciaaGreatCe26
namespace Go.Proofs.YtlmgojlffgkciaaGreat
set_option maxRecDepth 100000
set_option maxHeartbeats 8000000
open Go.RowKit Go.Sort
theorem own_of_ents {w : World} {base g n c : Nat} {D : List EntD} {cur : Array Value} (hb : base ≤ g) (hg : w.heap[g]? = some (.cells cur 78 (0, 0))) (hs : cur.size = c * 5) (hE : EntsAt w (some ⟨g, 0, none⟩) n c D) : OwnE w base g n c D := by
  have hl := hE.length
  have hr := hE.room
  refine ⟨⟨by rw [flatE_len, hl], Or.inr ⟨g, c, cur, rfl, hb, hg, hr, hE.big, hs, ?_⟩⟩, hl, hE.ents⟩
  apply List.ext_getElem?
  intro j
  by_cases hj : j < n * 5
  · have hj' : j < (flatE D).length := by rw [flatE_len, hl]; exact hj
    have h1 := ents_news hE j _ (List.getElem?_eq_getElem hj')
    rw [Go.WideShapes.add_plain, Nat.zero_add] at h1
    have h2 : w.cell? ⟨g, j, none⟩ = cur[j]? := by simp [World.cell?, hg]
    rw [h2] at h1
    rw [List.getElem?_take, if_pos hj, Array.getElem?_toList, h1, List.getElem?_eq_getElem hj']
  · rw [List.getElem?_eq_none (by simp; omega), List.getElem?_eq_none (by rw [flatE_len, hl]; omega)]
theorem OwnE.block {w : World} {base g n c : Nat} {L : List EntD} (h : OwnE w base g n c L) : ∃ cur, w.heap[g]? = some (.cells cur 78 (0, 0)) ∧ cur.size = c * 5 := by
  rcases h.owns.2 with ⟨hv, _⟩ | ⟨g', cap, cur, hv, _, h2, _, _, h5, _⟩
  · cases hv
  · cases hv
    exact ⟨cur, h2, h5⟩
theorem own_sorted {w : World} {base g n c m : Nat} {os : Array Obj} {L D : List EntD} (hO : OwnE w base g n c L) (hp : D.Perm L) : OwnE (sortWorldK entCells 5 w g 0 m D.toArray os) base g n c D := by
  have hE := hO.entsAt
  have hl : D.length = n := hp.length_eq.trans hO.len
  have hH := holdsK_sortWorldK_c entCells 5 w g 0 L.toArray D.toArray m os (holds_ents hO) hO.lt.2 (by simp [hp.length_eq])
  obtain ⟨cur, hg, hs⟩ := hO.block
  have hlt := hO.lt.2
  refine own_of_ents (cur := putCells id 0 (flatK entCells 5 D.toArray) cur) hO.lt.1 ?_ (by simpa [putCells] using hs) ⟨hl, hE.room, hE.big, fun l hl' => hO.ents l (hp.mem_iff.1 hl'), (fun e => by cases e), (fun x e _ => by cases e; exact ⟨Nat.lt_of_lt_of_le hO.lt.2 (grown_sorted _).size, rfl⟩), (fun x e i hi => by cases e; exact ents_holds hH i hi)⟩
  unfold sortWorldK putRowK
  rw [heap_grow_old _ _ (by simpa [putRow, mapBlock, Sort.ahead] using hlt)]
  simp [putRow, mapBlock, Sort.ahead, Array.getElem?_modify, hg, onCells]
theorem insPart (base g n c : Nat) (Z X Y : List EntD) (a b : Nat) (w : World) (hO : OwnE w base g n c (Z ++ (X ++ Y))) (ha : a = Z.length) (hb : b = Z.length + X.length) (hn : n ≤ 1048576) :
    Calls Tryz.prog 195 #[.slice (some ⟨g, 0, none⟩) n c, .int .i64 a, .int .i64 b, .func (.func 137) #[] #[]] w fun e w' => e = .returned (.tuple #[]) ∧ OwnE w' base g n c (Z ++ (cutC X ++ Y)) ∧ w.grownBy w' (some g) := by
  subst ha hb
  have hl := hO.len
  have hsz : (Z ++ (X ++ Y)).toArray.size = n := by simpa using hl
  have hle : Z.length + X.length ≤ n := by rw [← hl]; simp
  have eg : ∀ args w, (callFunc 137 args).run Tryz.prog w = .ok (.enter 137 args) w := enters_of Tryz.func137 (by kernel_rfl) rfl
  have hcmp : CmpLays Tryz.prog 137 #[] entCells 5 seqCf g 0 (Z ++ (X ++ Y)).toArray.size w := fun m os dk _ x y => implSeq x.1 x.2.2.2.1 y.1 y.2.2.2.1 x.2.1 x.2.2.1 x.2.2.2.2 y.2.1 y.2.2.1 y.2.2.2.2 _
  have h := AnyQ.insertionSortCmpFunc Tryz.insL 5 Tryz.isAgg78 Tryz.sizeOf78 entCells (fun _ => rfl) (fun x v hv => by simp [entCells] at hv; rcases hv with rfl | rfl | rfl | rfl | rfl <;> rfl) seqCf 137 #[] g 0 c Z.length (Z.length + X.length) (Z ++ (X ++ Y)).toArray w eg hcmp (holds_ents hO) hO.lt.2 (by omega) (by rw [hsz]; exact hle) (by rw [hsz]; omega)
  rw [hsz, seq_lt, ins_part] at h
  have h' : Calls Tryz.prog 195 #[.slice (some ⟨g, 0, none⟩) n c, .int .i64 (Z.length : Nat), .int .i64 ((Z.length + X.length : Nat) : Int), .func (.func 137) #[] #[]] w fun e w' => e = .returned (.tuple #[]) ∧ ∃ m os, w' = sortWorldK entCells 5 w g 0 m (Z ++ (cutC X ++ Y)).toArray os := h
  refine h'.mono ?_
  rintro e w' ⟨rfl, m, os, rfl⟩
  exact ⟨rfl, own_sorted hO (((cutC_perm X).append_right Y).append_left Z), grown_sorted _⟩
def setE (w : World) (g i : Nat) (e : EntD) : World := ((((w.setCell ⟨g, i * 5, none⟩ (.string e.1)).setCell ⟨g, i * 5 + 1, none⟩ (.int .i64 e.2.1)).setCell ⟨g, i * 5 + 2, none⟩ (.int .i64 e.2.2.1)).setCell ⟨g, i * 5 + 3, none⟩ (.string e.2.2.2.1)).setCell ⟨g, i * 5 + 4, none⟩ (.int .i64 e.2.2.2.2)
theorem OwnE.setE {w : World} {base g n c i : Nat} {L : List EntD} {e : EntD} (h : OwnE w base g n c L) (hi : i < n) (hw : EntW e) : OwnE (setE w g i e) base g n c (L.set i e) := by
  obtain ⟨s, q, d, t, nn⟩ := e
  have t0 := h.owns.stored (i * 5) (.string s)
  have t1 := t0.1.stored (i * 5 + 1) (.int .i64 q)
  have t2 := t1.1.stored (i * 5 + 2) (.int .i64 d)
  have t3 := t2.1.stored (i * 5 + 3) (.string t)
  have t4 := t3.1.stored (i * 5 + 4) (.int .i64 nn)
  have hl := h.len
  have hx : (flatE L).length = n * 5 := by rw [flatE_len, hl]
  have hf : ((((((flatE L).set (i * 5) (.string s)).set (i * 5 + 1) (.int .i64 q)).set (i * 5 + 2) (.int .i64 d)).set (i * 5 + 3) (.string t)).set (i * 5 + 4) (.int .i64 nn)) = flatE (L.set i (s, q, d, t, nn)) := row_flat (by simp [hx, hl]) (fun j l hj => by
    by_cases hji : j = i
    · subst hji
      rw [List.getElem?_set_self (by omega)] at hj
      cases hj
      exact rowEnt_same s t q d nn (by omega)
    · rw [List.getElem?_set_ne (Ne.symm hji)] at hj
      exact rowEnt_other (flatE_has L j l hj) hji _ _ _ _ _)
  refine ⟨?_, by simp [hl], fun l hl' => ?_⟩
  · have h4 := t4.1
    rw [hf] at h4
    exact h4
  · rcases List.mem_or_eq_of_mem_set hl' with h1 | h1
    · exact h.ents l h1
    · rw [h1]; exact hw
theorem grown_cellE (w : World) (g o : Nat) (v : Value) : w.grownBy (w.setCell ⟨g, o, none⟩ v) (some g) :=
  ⟨rfl, rfl, rfl, by simp [World.setCell], fun k _ hk => Below.heap_setCell _ _ _ _ (fun e => hk (by rw [e]))⟩
theorem grown_setE (w : World) (g i : Nat) (e : EntD) : w.grownBy (Go.Proofs.YtlmgojlffgkciaaGreat.setE w g i e) (some g) :=
  grown_trans (grown_trans (grown_trans (grown_trans (grown_cellE _ _ _ _) (grown_cellE _ _ _ _)) (grown_cellE _ _ _ _)) (grown_cellE _ _ _ _)) (grown_cellE _ _ _ _)
theorem set_two (X1 X2 X3 : List EntD) (p q : EntD) : ((X1 ++ p :: (X2 ++ q :: X3)).set X1.length q).set (X1.length + 1 + X2.length) p = X1 ++ q :: (X2 ++ p :: X3) := by
  rw [List.set_append_right _ _ (Nat.le_refl _), Nat.sub_self, List.set_cons_zero, List.set_append_right _ _ (by omega), show X1.length + 1 + X2.length - X1.length = X2.length + 1 by omega, List.set_cons_succ, List.set_append_right _ _ (Nat.le_refl _), Nat.sub_self, List.set_cons_zero]
end Go.Proofs.YtlmgojlffgkciaaGreat
namespace Go.Proofs.YtlmgojlffgkciaaGreat
open Go.RowKit
set_option maxRecDepth 100000
set_option maxHeartbeats 8000000
attribute [local go_sem] Oper.semAt_some
theorem OwnE.at5 {w : World} {base g n c i : Nat} {L : List EntD} {s t : ByteArray} {q d nn : Int} (h : OwnE w base g n c L) (hx : L[i]? = some (s, q, d, t, nn)) : w.cell? ⟨g, i * 5, none⟩ = some (.string s) ∧ w.cell? ⟨g, i * 5 + 1, none⟩ = some (.int .i64 q) ∧ w.cell? ⟨g, i * 5 + 2, none⟩ = some (.int .i64 d) ∧ w.cell? ⟨g, i * 5 + 3, none⟩ = some (.string t) ∧ w.cell? ⟨g, i * 5 + 4, none⟩ = some (.int .i64 nn) := by
  obtain ⟨hi, he⟩ := List.getElem?_eq_some_iff.1 hx
  obtain ⟨c0, c1, c2, c3, c4⟩ := h.entsAt.cells _ rfl i hi
  rw [he] at c0 c1 c2 c3 c4
  simp only [Nat.zero_add] at c0 c1 c2 c3 c4
  exact ⟨c0, c1, c2, c3, c4⟩
theorem grown_drewE (w : World) (g : Nat) : w.grownBy w.drew (some g) := ⟨rfl, rfl, rfl, Nat.le_refl _, fun _ _ _ => rfl⟩
theorem half_at {Z P M Q Y : List EntD} {i n : Nat} (hP : P.length = n) (hQ : Q.length = n) (hi : i < n) : (halfX Z P M Q Y i)[Z.length + i]? = P[i]? ∧ (halfX Z P M Q Y i)[Z.length + n + M.length + i]? = Q[i]? := by
  unfold halfX
  have l1 : (Z ++ Q.take i).length = Z.length + i := by simp; omega
  constructor
  · rw [List.getElem?_append_right (by omega), l1, Nat.sub_self, List.getElem?_append_left (by simp; omega), List.getElem?_drop, Nat.add_zero]
  · rw [List.getElem?_append_right (by omega), l1, List.getElem?_append_right (by simp; omega), List.length_drop, hP, List.getElem?_append_right (by omega), List.getElem?_append_right (by simp; omega), List.length_take, hP, List.getElem?_append_left (by simp; omega), List.getElem?_drop]
    congr 1
    omega
theorem half_set {Z P M Q Y : List EntD} {i n : Nat} {x y : EntD} (hP : P.length = n) (hQ : Q.length = n) (hi : i < n) (hx : P[i]? = some x) (hy : Q[i]? = some y) : ((halfX Z P M Q Y i).set (Z.length + i) y).set (Z.length + n + M.length + i) x = halfX Z P M Q Y (i + 1) := by
  have hg := half_go Z P M Q Y i n hP hQ hi
  have ha := half_at (Z := Z) (M := M) (Y := Y) hP hQ hi
  unfold Sort.swp at hg
  have e1 : ((halfX Z P M Q Y i).toArray)[Z.length + n + M.length + i]! = y := by simp [ha.2, hy]
  have e0 : ((halfX Z P M Q Y i).toArray)[Z.length + i]! = x := by simp [ha.1, hx]
  rw [e1, e0] at hg
  have := congrArg Array.toList hg
  simpa using this
theorem swapRange (base g n c : Nat) (Z P M Q Y : List EntD) (a b m : Nat) (fv : Value) (w : World) (hO : OwnE w base g n c (Z ++ (P ++ (M ++ (Q ++ Y))))) (ha : a = Z.length) (hb : b = Z.length + m + M.length) (hP : P.length = m) (hQ : Q.length = m) (hn : n ≤ 1048576) :
    Calls Tryz.prog 226 #[.slice (some ⟨g, 0, none⟩) n c, .int .i64 a, .int .i64 b, .int .i64 m, fv] w fun e w' => e = .returned (.tuple #[]) ∧ OwnE w' base g n c (Z ++ (Q ++ (M ++ (P ++ Y)))) ∧ w.grownBy w' (some g) := by
  have hl := hO.len
  simp only [List.length_append] at hl
  have hcb := hO.entsAt.big
  have hcr := hO.entsAt.room
  unfold maxLen at hcb
  have HP : Hid (P.length = m) := hP
  have HQ : Hid (Q.length = m) := hQ
  have HA : Hid (a = Z.length) := ha
  have HB : Hid (b = Z.length + m + M.length) := hb
  have HABN : Hid (b + m ≤ n ∧ a + m ≤ b) := by show b + m ≤ n ∧ a + m ≤ b; omega
  have HO : Hid (OwnE w base g n c (halfX Z P M Q Y 0)) := by rw [half_0]; exact hO
  clear hO ha hb hP hQ hl
  go_enter Tryz.func226, Tryz.ntmps226
  go_wp2
  go_loopw [10] (fun iv wr => ∃ i : Nat, i ≤ m ∧ iv = .int .i64 i ∧ OwnE wr base g n c (halfX Z P M Q Y i) ∧ w.grownBy wr (some g)) (fun iv _ => m - (intOf iv).toNat)
  case atStart => exact ⟨0, Nat.zero_le _, rfl, HO.out, ⟨rfl, rfl, rfl, Nat.le_refl _, fun _ _ _ => rfl⟩⟩
  case round =>
    obtain ⟨i, hi, rfl, hOi, hGi⟩ := hrel
    have HOI : Hid (OwnE wr base g n c (halfX Z P M Q Y i)) := hOi
    have HGR : Hid (w.grownBy wr (some g)) := hGi
    clear hOi hGi HO
    by_cases hlt : i < m
    · have hltI : (i : Int) < (m : Int) := by omega
      obtain ⟨⟨s, q, d, t, nn⟩, hx⟩ : ∃ x, P[i]? = some x := ⟨_, List.getElem?_eq_getElem (by rw [HP.out]; exact hlt)⟩
      obtain ⟨⟨s', q', d', t', nn'⟩, hy⟩ : ∃ y, Q[i]? = some y := ⟨_, List.getElem?_eq_getElem (by rw [HQ.out]; exact hlt)⟩
      have hat := half_at (Z := Z) (M := M) (Y := Y) HP.out HQ.out hlt
      rw [← HB.out, ← HA.out, hx, hy] at hat
      have HX : Hid ((halfX Z P M Q Y i)[a + i]? = some (s, q, d, t, nn)) := hat.1
      have HY : Hid ((halfX Z P M Q Y i)[b + i]? = some (s', q', d', t', nn')) := hat.2
      have HSW : Hid (((halfX Z P M Q Y i).set (a + i) (s', q', d', t', nn')).set (b + i) (s, q, d, t, nn) = halfX Z P M Q Y (i + 1)) := by
        have := half_set (Z := Z) (M := M) (Y := Y) HP.out HQ.out hlt hx hy
        rw [← HB.out, ← HA.out] at this
        exact this
      obtain ⟨hbm, ham⟩ := HABN.out
      have HI : Hid (a + i < n) := by show a + i < n; omega
      have HJ : Hid (b + i < n) := by show b + i < n; omega
      have HIJ : Hid (a + i ≠ b + i) := by show a + i ≠ b + i; omega
      have ea : ((a : Int) + (i : Int)).toNat = a + i := by omega
      have pa : (0 : Int) ≤ (a : Int) + (i : Int) := by omega
      have ba : (a : Int) + (i : Int) < (n : Int) := by omega
      have ra : IntKind.i64.wrap ((a : Int) + (i : Int)) = (a : Int) + (i : Int) := by rw [IntKind.wrap_i64]; omega
      have ec : ((b : Int) + (i : Int)).toNat = b + i := by omega
      have pc : (0 : Int) ≤ (b : Int) + (i : Int) := by omega
      have bc : (b : Int) + (i : Int) < (n : Int) := by omega
      have rc : IntKind.i64.wrap ((b : Int) + (i : Int)) = (b : Int) + (i : Int) := by rw [IntKind.wrap_i64]; omega
      have k0 : OwnE wr.drew base g n c (halfX Z P M Q Y i) := HOI.out.below (Below.refl _ _).drew
      have gd : w.grownBy wr.drew (some g) := grown_trans HGR.out (grown_drewE _ _)
      clear hat hx hy hbm ham HOI
      go_wp2_with fail
      refine wp_region_held_drew (S := (fun w' => g < w'.heap.size)) (by kernel_rfl) (by exact k0.lt.2) (fun hHeld => ?_)
      generalize wr.drew = wd at k0 gd hHeld ⊢
      refine tkL 0 hHeld ?_; try go_frame
      refine tkL 1 hHeld ?_; try go_frame
      refine tkL 2 hHeld ?_; try go_frame
      refine tkL 3 hHeld ?_; try go_frame
      refine tkL 4 hHeld ?_; try go_frame
      refine tkL 5 hHeld ?_; try go_frame
      refine tkL 6 hHeld ?_; try go_frame
      refine tkL 7 hHeld ?_; try go_frame
      refine tkL 8 hHeld ?_; try go_frame
      refine tkL 9 hHeld ?_; try go_frame
      refine tkL 10 hHeld ?_; try go_frame
      refine tkL 11 hHeld ?_; try go_frame
      refine tkL 12 hHeld ?_; try go_frame
      refine tkL 14 hHeld ?_; try go_frame
      refine tkL 15 hHeld ?_; try go_frame
      refine tkL 16 hHeld ?_; try go_frame
      refine tkL 17 hHeld ?_; try go_frame
      refine tkL 18 hHeld ?_; try go_frame
      refine wpAnyH_ready (rs := [13, 19]) (by kernel_rfl) (by simp) ?_
      refine consL rfl (fun K hK => ?_) (consL rfl (fun K hK => ?_) AllReadyH.nil)
      · obtain ⟨lc0, lc1, lc2, lc3, lc4⟩ := k0.at5 HY.out
        have lcl := k0.lt.2
        go_simp
        clear lc0 lc1 lc2 lc3 lc4 lcl
        refine hK.out _ _ (by exact k0.lt.2) (fun hHeld => ?_)
        clear hK K
        try go_frame
        refine wpAnyH_ready (rs := [19]) (by kernel_rfl) (by simp) ?_
        refine consL rfl (fun K hK => ?_) AllReadyH.nil
        obtain ⟨lc0, lc1, lc2, lc3, lc4⟩ := k0.at5 HX.out
        have lcl := k0.lt.2
        go_simp
        clear lc0 lc1 lc2 lc3 lc4 lcl
        refine hK.out _ _ (by exact k0.lt.2) (fun hHeld => ?_)
        clear hK K
        try go_frame
        refine tkL 20 hHeld ?_; try go_frame
        refine wpAnyH_ready (rs := [21]) (by kernel_rfl) (by simp) ?_
        refine consL rfl (fun K hK => ?_) AllReadyH.nil
        obtain ⟨lc0, lc1, lc2, lc3, lc4⟩ := k0.at5 HX.out
        have lcl := k0.lt.2
        have lf := k0.owns.frozenAt
        have f0 := lf ((a + i) * 5)
        have f1 := lf ((a + i) * 5 + 1)
        have f2 := lf ((a + i) * 5 + 2)
        have f3 := lf ((a + i) * 5 + 3)
        have f4 := lf ((a + i) * 5 + 4)
        clear lf
        go_simp
        clear lc0 lc1 lc2 lc3 lc4 lcl
        clear f0 f1 f2 f3 f4
        have k1 := k0.setE (i := a + i) (e := (s', q', d', t', nn')) HI.out (k0.ents _ (List.mem_of_getElem? HY.out))
        refine hK.out _ (setE wd g (a + i) (s', q', d', t', nn')) (by exact k1.lt.2) (fun hHeld => ?_)
        clear hK K
        have gw1 := grown_setE wd g (a + i) (s', q', d', t', nn')
        generalize setE wd g (a + i) (s', q', d', t', nn') = w1' at k1 gw1 hHeld ⊢
        try go_frame
        refine tkL 22 hHeld ?_; try go_frame
        refine wpAnyH_ready (rs := [23]) (by kernel_rfl) (by simp) ?_
        refine consL rfl (fun K hK => ?_) AllReadyH.nil
        have HY1 : ((halfX Z P M Q Y i).set (a + i) (s', q', d', t', nn'))[b + i]? = some (s', q', d', t', nn') := by rw [List.getElem?_set_ne HIJ.out]; exact HY.out
        obtain ⟨lc0, lc1, lc2, lc3, lc4⟩ := k1.at5 HY1
        have lcl := k1.lt.2
        have lf := k1.owns.frozenAt
        have f0 := lf ((b + i) * 5)
        have f1 := lf ((b + i) * 5 + 1)
        have f2 := lf ((b + i) * 5 + 2)
        have f3 := lf ((b + i) * 5 + 3)
        have f4 := lf ((b + i) * 5 + 4)
        clear lf
        go_simp
        clear lc0 lc1 lc2 lc3 lc4 lcl
        clear f0 f1 f2 f3 f4
        have k2 := k1.setE (i := b + i) (e := (s, q, d, t, nn)) HJ.out (k0.ents _ (List.mem_of_getElem? HX.out))
        refine hK.out _ (setE w1' g (b + i) (s, q, d, t, nn)) (by exact k2.lt.2) (fun hHeld => ?_)
        clear hK K
        have gw : wd.grownBy (setE w1' g (b + i) (s, q, d, t, nn)) (some g) := grown_trans gw1 (grown_setE w1' g (b + i) (s, q, d, t, nn))
        generalize setE w1' g (b + i) (s, q, d, t, nn) = w2' at k2 gw hHeld ⊢
        try go_frame
        refine wpAnyH_done (by kernel_rfl) ?_ _
        have HK2 : Hid (OwnE w2' base g n c (halfX Z P M Q Y (i + 1))) := by have := k2; rw [HSW.out] at this; exact this
        have HG2 : Hid (w.grownBy w2' (some g)) := grown_trans gd gw
        clear k2 gw k0 k1 gw1 gd hHeld
        go_wp2
        go_roundw
        case rel => exact ⟨i + 1, by omega, by go_num, HK2.out, HG2.out⟩
        case measure => simp [intOf]; omega
      · obtain ⟨lc0, lc1, lc2, lc3, lc4⟩ := k0.at5 HX.out
        have lcl := k0.lt.2
        go_simp
        clear lc0 lc1 lc2 lc3 lc4 lcl
        refine hK.out _ _ (by exact k0.lt.2) (fun hHeld => ?_)
        clear hK K
        try go_frame
        refine wpAnyH_ready (rs := [13]) (by kernel_rfl) (by simp) ?_
        refine consL rfl (fun K hK => ?_) AllReadyH.nil
        obtain ⟨lc0, lc1, lc2, lc3, lc4⟩ := k0.at5 HY.out
        have lcl := k0.lt.2
        go_simp
        clear lc0 lc1 lc2 lc3 lc4 lcl
        refine hK.out _ _ (by exact k0.lt.2) (fun hHeld => ?_)
        clear hK K
        try go_frame
        refine tkL 20 hHeld ?_; try go_frame
        refine wpAnyH_ready (rs := [21]) (by kernel_rfl) (by simp) ?_
        refine consL rfl (fun K hK => ?_) AllReadyH.nil
        obtain ⟨lc0, lc1, lc2, lc3, lc4⟩ := k0.at5 HX.out
        have lcl := k0.lt.2
        have lf := k0.owns.frozenAt
        have f0 := lf ((a + i) * 5)
        have f1 := lf ((a + i) * 5 + 1)
        have f2 := lf ((a + i) * 5 + 2)
        have f3 := lf ((a + i) * 5 + 3)
        have f4 := lf ((a + i) * 5 + 4)
        clear lf
        go_simp
        clear lc0 lc1 lc2 lc3 lc4 lcl
        clear f0 f1 f2 f3 f4
        have k1 := k0.setE (i := a + i) (e := (s', q', d', t', nn')) HI.out (k0.ents _ (List.mem_of_getElem? HY.out))
        refine hK.out _ (setE wd g (a + i) (s', q', d', t', nn')) (by exact k1.lt.2) (fun hHeld => ?_)
        clear hK K
        have gw1 := grown_setE wd g (a + i) (s', q', d', t', nn')
        generalize setE wd g (a + i) (s', q', d', t', nn') = w1' at k1 gw1 hHeld ⊢
        try go_frame
        refine tkL 22 hHeld ?_; try go_frame
        refine wpAnyH_ready (rs := [23]) (by kernel_rfl) (by simp) ?_
        refine consL rfl (fun K hK => ?_) AllReadyH.nil
        have HY1 : ((halfX Z P M Q Y i).set (a + i) (s', q', d', t', nn'))[b + i]? = some (s', q', d', t', nn') := by rw [List.getElem?_set_ne HIJ.out]; exact HY.out
        obtain ⟨lc0, lc1, lc2, lc3, lc4⟩ := k1.at5 HY1
        have lcl := k1.lt.2
        have lf := k1.owns.frozenAt
        have f0 := lf ((b + i) * 5)
        have f1 := lf ((b + i) * 5 + 1)
        have f2 := lf ((b + i) * 5 + 2)
        have f3 := lf ((b + i) * 5 + 3)
        have f4 := lf ((b + i) * 5 + 4)
        clear lf
        go_simp
        clear lc0 lc1 lc2 lc3 lc4 lcl
        clear f0 f1 f2 f3 f4
        have k2 := k1.setE (i := b + i) (e := (s, q, d, t, nn)) HJ.out (k0.ents _ (List.mem_of_getElem? HX.out))
        refine hK.out _ (setE w1' g (b + i) (s, q, d, t, nn)) (by exact k2.lt.2) (fun hHeld => ?_)
        clear hK K
        have gw : wd.grownBy (setE w1' g (b + i) (s, q, d, t, nn)) (some g) := grown_trans gw1 (grown_setE w1' g (b + i) (s, q, d, t, nn))
        generalize setE w1' g (b + i) (s, q, d, t, nn) = w2' at k2 gw hHeld ⊢
        try go_frame
        refine wpAnyH_done (by kernel_rfl) ?_ _
        have HK2 : Hid (OwnE w2' base g n c (halfX Z P M Q Y (i + 1))) := by have := k2; rw [HSW.out] at this; exact this
        have HG2 : Hid (w.grownBy w2' (some g)) := grown_trans gd gw
        clear k2 gw k0 k1 gw1 gd hHeld
        go_wp2
        go_roundw
        case rel => exact ⟨i + 1, by omega, by go_num, HK2.out, HG2.out⟩
        case measure => simp [intOf]; omega
    · have hltI : ¬ (i : Int) < (m : Int) := by omega
      have hie : i = m := by omega
      have HD : Hid (OwnE wr base g n c (Z ++ (Q ++ (M ++ (P ++ Y))))) := by have := HOI.out; rw [hie, half_n Z P M Q Y m HP.out HQ.out] at this; exact this
      clear hie HOI
      go_wp2
      go_end0
      exact ⟨rfl, HD.out, HGR.out⟩
theorem rotate (base g n c : Nat) (Z U V Y : List EntD) (a m b : Nat) (fv : Value) (w : World) (hO : OwnE w base g n c (Z ++ (U ++ (V ++ Y)))) (ha : a = Z.length) (hm : m = Z.length + U.length) (hb : b = Z.length + U.length + V.length) (hU : 1 ≤ U.length) (hV : 1 ≤ V.length) (hn : n ≤ 1048576) :
    Calls Tryz.prog 215 #[.slice (some ⟨g, 0, none⟩) n c, .int .i64 a, .int .i64 m, .int .i64 b, fv] w fun e w' => e = .returned (.tuple #[]) ∧ OwnE w' base g n c (Z ++ (V ++ (U ++ Y))) ∧ w.grownBy w' (some g) := by
  obtain ⟨T, hT⟩ : ∃ T, T = Z ++ (V ++ (U ++ Y)) := ⟨_, rfl⟩
  rw [← hT]
  have HT : Hid (T = Z ++ (V ++ (U ++ Y))) := hT
  have HO : Hid (OwnE w base g n c (Z ++ (U ++ (V ++ Y)))) := hO
  have hl := hO.len
  simp only [List.length_append] at hl
  have r1 : IntKind.i64.wrap ((m : Int) - (a : Int)) = ((U.length : Nat) : Int) := by rw [IntKind.wrap_i64]; omega
  have r2 : IntKind.i64.wrap ((b : Int) - (m : Int)) = ((V.length : Nat) : Int) := by rw [IntKind.wrap_i64]; omega
  obtain ⟨i0, hi0⟩ : ∃ i0, i0 = U.length := ⟨_, rfl⟩
  obtain ⟨j0, hj0⟩ : ∃ j0, j0 = V.length := ⟨_, rfl⟩
  have HIN : Hid (∃ (Z0 U0 V0 Y0 : List EntD), 1 ≤ i0 ∧ 1 ≤ j0 ∧ U0.length = i0 ∧ V0.length = j0 ∧ m = Z0.length + i0 ∧ m + j0 ≤ n ∧ T = Z0 ++ (V0 ++ (U0 ++ Y0)) ∧ OwnE w base g n c (Z0 ++ (U0 ++ (V0 ++ Y0)))) := ⟨Z, U, V, Y, by omega, by omega, hi0.symm, hj0.symm, by omega, by omega, HT.out, HO.out⟩
  rw [← hi0] at r1
  rw [← hj0] at r2
  clear hT hO ha hm hb hU hV hl hi0 hj0 HT HO
  go_enter Tryz.func215, Tryz.ntmps215
  go_wp2
  clear r1 r2
  go_loopw [10, 11] (fun iv jv wr => ∃ (i j : Nat) (Z0 U0 V0 Y0 : List EntD), iv = .int .i64 i ∧ jv = .int .i64 j ∧ 1 ≤ i ∧ 1 ≤ j ∧ U0.length = i ∧ V0.length = j ∧ m = Z0.length + i ∧ m + j ≤ n ∧ T = Z0 ++ (V0 ++ (U0 ++ Y0)) ∧ OwnE wr base g n c (Z0 ++ (U0 ++ (V0 ++ Y0))) ∧ w.grownBy wr (some g)) (fun iv jv _ => (intOf iv).toNat + (intOf jv).toNat)
  case atStart =>
    obtain ⟨Z0, U0, V0, Y0, h1, h2, h3, h4, h5, h6, h7, h8⟩ := HIN.out
    exact ⟨i0, j0, Z0, U0, V0, Y0, rfl, rfl, h1, h2, h3, h4, h5, h6, h7, h8, ⟨rfl, rfl, rfl, Nat.le_refl _, fun _ _ _ => rfl⟩⟩
  case round =>
    obtain ⟨i, j, Z0, U0, V0, Y0, rfl, rfl, hi, hj, hu, hv, hmz, hmn, hT0, hO0, hG0⟩ := hrel
    have HU : Hid (U0.length = i) := hu
    have HV : Hid (V0.length = j) := hv
    have HM : Hid (m = Z0.length + i) := hmz
    have HT : Hid (T = Z0 ++ (V0 ++ (U0 ++ Y0))) := hT0
    have HO : Hid (OwnE wr base g n c (Z0 ++ (U0 ++ (V0 ++ Y0)))) := hO0
    have HG : Hid (w.grownBy wr (some g)) := hG0
    have him : i ≤ m := by omega
    clear hu hv hmz hT0 hO0 hG0 HIN
    have rm : IntKind.i64.wrap ((m : Int) - (i : Int)) = ((m - i : Nat) : Int) := by rw [IntKind.wrap_i64]; omega
    by_cases hij : i = j
    · have hijI : ¬ ((i : Int) ≠ (j : Int)) := by omega
      have hijb : ((i : Int) == (j : Int)) = true := by simp [hij]
      have HIJ : Hid (i = j) := hij
      subst hij
      have HO' : Hid (OwnE wr base g n c (Z0 ++ (U0 ++ ([] ++ (V0 ++ Y0))))) := by simpa [Hid] using HO.out
      go_wp2_with fail
      refine (swapRange base g n c Z0 U0 [] V0 Y0 (m - i) m i _ _ HO'.out (by have := HM.out; omega) (by have := HM.out; simp; omega) HU.out HV.out hn).mono ?_
      rintro e w1 ⟨rfl, hO1, hG1⟩
      have HO1 : Hid (OwnE w1 base g n c T) := by rw [HT.out]; simpa [Hid] using hO1
      have HG1 : Hid (w.grownBy w1 (some g)) := grown_trans HG.out hG1
      clear hO1 hG1
      go_wp2
      go_end0
      exact ⟨rfl, HO1.out, HG1.out⟩
    · have hijb : ((i : Int) == (j : Int)) = false := by simp; omega
      by_cases hgt : j < i
      · have hgtI : (j : Int) < (i : Int) := by omega
        have rs : IntKind.i64.wrap ((i : Int) - (j : Int)) = ((i - j : Nat) : Int) := by rw [IntKind.wrap_i64]; omega
        have hUs : U0 = U0.take j ++ U0.drop j := (List.take_append_drop j U0).symm
        have HO' : Hid (OwnE wr base g n c (Z0 ++ (U0.take j ++ (U0.drop j ++ (V0 ++ Y0))))) := by
          have := HO.out
          rw [hUs, List.append_assoc] at this
          simpa [Hid] using this
        have HT' : Hid (T = (Z0 ++ V0) ++ (U0.take j ++ (U0.drop j ++ Y0))) := by
          have := HT.out
          rw [hUs, List.append_assoc] at this
          simpa [Hid] using this
        clear hUs
        go_wp2_with fail
        refine (swapRange base g n c Z0 (U0.take j) (U0.drop j) V0 Y0 (m - i) m j _ _ HO'.out (by have := HM.out; omega) (by have := HM.out; have := HU.out; simp; omega) (by have := HU.out; simp; omega) HV.out hn).mono ?_
        rintro e w1 ⟨rfl, hO1, hG1⟩
        have HO1 : Hid (OwnE w1 base g n c ((Z0 ++ V0) ++ (U0.drop j ++ (U0.take j ++ Y0)))) := by simpa [Hid] using hO1
        have HG1 : Hid (w.grownBy w1 (some g)) := grown_trans HG.out hG1
        clear hO1 hG1
        go_wp2
        go_roundw
        case rel => exact ⟨i - j, j, Z0 ++ V0, U0.drop j, U0.take j, Y0, rfl, rfl, by omega, hj, by have := HU.out; simp; omega, by have := HU.out; simp; omega, by have := HM.out; have := HV.out; simp; omega, hmn, HT'.out, HO1.out, HG1.out⟩
        case measure => simp [intOf]; omega
      · have hgtI : ¬ (j : Int) < (i : Int) := by omega
        have rs : IntKind.i64.wrap ((j : Int) - (i : Int)) = ((j - i : Nat) : Int) := by rw [IntKind.wrap_i64]; omega
        have ra : IntKind.i64.wrap ((m : Int) + (j : Int)) = (m : Int) + (j : Int) := by rw [IntKind.wrap_i64]; omega
        have rb : IntKind.i64.wrap ((m : Int) + (j : Int) - (i : Int)) = ((m + j - i : Nat) : Int) := by rw [IntKind.wrap_i64]; omega
        have hVs : V0 = V0.take (j - i) ++ V0.drop (j - i) := (List.take_append_drop (j - i) V0).symm
        have HO' : Hid (OwnE wr base g n c (Z0 ++ (U0 ++ (V0.take (j - i) ++ (V0.drop (j - i) ++ Y0))))) := by
          have := HO.out
          rw [hVs, List.append_assoc] at this
          simpa [Hid] using this
        have HT' : Hid (T = Z0 ++ (V0.take (j - i) ++ (V0.drop (j - i) ++ (U0 ++ Y0)))) := by
          have := HT.out
          rw [hVs, List.append_assoc] at this
          simpa [Hid] using this
        clear hVs
        go_wp2_with fail
        refine (swapRange base g n c Z0 U0 (V0.take (j - i)) (V0.drop (j - i)) Y0 (m - i) (m + j - i) i _ _ HO'.out (by have := HM.out; omega) (by have := HM.out; have := HV.out; simp; omega) HU.out (by have := HV.out; simp; omega) hn).mono ?_
        rintro e w1 ⟨rfl, hO1, hG1⟩
        have HO1 : Hid (OwnE w1 base g n c (Z0 ++ (V0.drop (j - i) ++ (V0.take (j - i) ++ (U0 ++ Y0))))) := hO1
        have HG1 : Hid (w.grownBy w1 (some g)) := grown_trans HG.out hG1
        clear hO1 hG1
        go_wp2
        go_roundw
        case rel => exact ⟨i, j - i, Z0, V0.drop (j - i), V0.take (j - i), U0 ++ Y0, rfl, rfl, hi, by omega, by have := HV.out; simp; omega, by have := HV.out; simp; omega, HM.out, by omega, HT'.out, HO1.out, HG1.out⟩
        case measure => simp [intOf]; omega
end Go.Proofs.YtlmgojlffgkciaaGreat
