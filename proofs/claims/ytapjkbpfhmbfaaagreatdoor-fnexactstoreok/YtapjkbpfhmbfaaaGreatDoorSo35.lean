/-
  The program's isNewerAbove: whether of each key what is newer stands above; by a walk of its Go text.
-/
import Derived.Maps.Views
import Derived.Maps.OwnOps
import Derived.Test.YtapjkbpfhmbfaaaGreatDoorSo33
import Derived.Test.YtapjkbpfhmbfaaaGreatDoorSo34
namespace Go.Proofs.YtapjkbpfhmbfaaaGreatDoor
set_option maxRecDepth 100000
set_option maxHeartbeats 8000000
open Go.RowKit Go.Shelf Go.Maps
attribute [local go_sem] Oper.semAt_some
structure NewIs (D : DataW Unit) (T : List EntD) : Prop where
  isMap : IsMap D
  val : ∀ k : ByteArray, D.atKey (.string k.data.toList) (.lit (.int .i64 0)) = .lit (.int .i64 (topQ T k))
theorem newIs_nil : NewIs (.map []) [] := ⟨isMap_empty, fun k => by
  have : Maps.has (H := Unit) (.map []) (.string k.data.toList) = false := by simp [Maps.has]
  rw [atKey_of_not_has this]
  rfl⟩
theorem NewIs.put {D : DataW Unit} {T : List EntD} (h : NewIs D T) (e : EntD) : NewIs (D.put (.string e.1.data.toList) (.lit (.int .i64 e.2.1))) (e :: T) := by
  refine ⟨h.isMap.put _ _, fun k => ?_⟩
  rw [top_cons]
  by_cases hk : e.1 = k
  · subst hk
    rw [atKey_put_same (k := .string e.1.data.toList) h.isMap trivial, if_pos rfl]
  · have hne : Lit.string k.data.toList ≠ Lit.string e.1.data.toList := by
      intro e'
      apply hk
      have h2 : k.data.toList = e.1.data.toList := by simpa using e'
      exact ByteArray.ext (Array.toList_inj.1 h2.symm)
    rw [atKey_put_other hne, if_neg hk]
    exact h.val k
def noEnt : EntD := (⟨#[]⟩, 0, 0, ⟨#[]⟩, 0)
def entA (L : List EntD) (i : Nat) : EntD := (L[i]?).getD noEnt
theorem entA_at {L : List EntD} {i : Nat} (h : i < L.length) : entA L i = L[i] := by unfold entA; rw [List.getElem?_eq_getElem h]; rfl
def topL (P : List (List EntD)) (pre : List (Fin P.length)) : List EntD := (pre.reverse.map (fun x => (P[x.1]?).getD [])).flatten
theorem topL_nil (P : List (List EntD)) : topL P [] = [] := rfl
theorem topL_snoc (P : List (List EntD)) (pre : List (Fin P.length)) (x : Fin P.length) : topL P (pre ++ [x]) = (P[x.1]?).getD [] ++ topL P pre := by
  simp [topL]
theorem topL_all (P : List (List EntD)) : topL P (downTo P.length 0) = P.flatten := by
  unfold topL
  have := down_map P [] id
  simp only [id_eq, List.map_id] at this
  rw [List.map_reverse, this, List.reverse_reverse]
theorem topL_pre {P : List (List EntD)} {pre : List (Fin P.length)} (h : pre <+: downTo P.length 0) : ∃ B, P.flatten = B ++ topL P pre := by
  obtain ⟨r, hr⟩ := h
  refine ⟨topL P r, ?_⟩
  rw [← topL_all, ← hr]
  simp [topL]
theorem topL_len {P : List (List EntD)} (h : ∀ l ∈ P, l.length ≤ 150) : ∀ pre : List (Fin P.length), (topL P pre).length ≤ 150 * pre.length := by
  intro pre
  unfold topL
  induction pre with
  | nil => simp
  | cons x pre ih =>
    have hx := h _ (List.getElem_mem x.2)
    rw [List.reverse_cons, List.map_append, List.flatten_append, List.length_append]
    simp only [List.map_cons, List.map_nil, List.flatten_cons, List.flatten_nil, List.append_nil, List.length_cons]
    rw [List.getElem?_eq_getElem x.2]
    simp only [Option.getD_some]
    omega
def topE (L T : List EntD) (pre : List (Fin L.length)) : List EntD := pre.reverse.map (fun x => entA L x.1) ++ T
theorem topE_nil (L T : List EntD) : topE L T [] = T := rfl
theorem topE_snoc (L T : List EntD) (pre : List (Fin L.length)) (x : Fin L.length) : topE L T (pre ++ [x]) = entA L x.1 :: topE L T pre := by simp [topE]
theorem topE_all (L T : List EntD) : topE L T (downTo L.length 0) = L ++ T := by
  unfold topE
  have := down_map L noEnt id
  simp only [id_eq, List.map_id] at this
  have h2 : (downTo L.length 0).map (fun x => entA L x.1) = L.reverse := this
  rw [List.map_reverse, h2, List.reverse_reverse]
theorem topE_pre {L T : List EntD} {pre : List (Fin L.length)} (h : pre <+: downTo L.length 0) : ∃ B, L ++ T = B ++ topE L T pre := by
  obtain ⟨r, hr⟩ := h
  refine ⟨r.reverse.map (fun x => entA L x.1), ?_⟩
  rw [← topE_all, ← hr]
  simp [topE]
theorem topE_len (L T : List EntD) (pre : List (Fin L.length)) : (topE L T pre).length = pre.length + T.length := by simp [topE]
theorem keepS_own {β : Type} {K : Nat → Prop} {W : World} {B : Nat} (hK : ∀ k, K k → k < W.heap.size ∧ k < B) : OwnFrom B (fun (_ : β) W' => KeepS K W W') := fun _ X Y row hs hg hr =>
  ⟨hg.os.trans hs.os, hg.tape.trans hs.tape, hg.output.trans hs.output, Nat.le_trans hs.size hg.size, fun k hk => by
    refine (hg.block k (Nat.lt_of_lt_of_le (hK k hk).1 hs.size) (fun e => ?_)).trans (hs.block k hk)
    have := (hr k e.symm).1
    have := (hK k hk).2
    omega⟩
theorem size_own {β : Type} {B n : Nat} : OwnFrom B (fun (_ : β) W' => n ≤ W'.heap.size) := fun _ _ _ _ hs hg _ => Nat.le_trans hs hg.size
def InvN (w : World) (q : Int) (z : Nat) (T : List EntD) (W : World) : Prop :=
  newerB q T = true ∧ Boxed W (w.heap.size + 1) 4 (.bool false) ∧ Boxed W (w.heap.size + 1 + 1 + 1) 205 (.map (some (w.heap.size + 1 + 1))) ∧ W.cell? ⟨w.heap.size, 0, none⟩ = some (.int .i64 q) ∧
    (∃ D, NewIs D T ∧ W.ownsMap Tryz.prog 9 (plainElem (H := Unit) Tryz.prog 3) (w.heap.size + 1 + 1) T.length D) ∧ Below w.heap.size w W ∧ z ≤ W.heap.size
theorem InvN.own {w : World} {q : Int} {z B : Nat} (hB : w.heap.size + 4 ≤ B) {T : List EntD} {X Y : World} {row : Option Nat} (h : InvN w q z T X) (hg : X.grownBy Y row) (hr : ∀ r, row = some r → B ≤ r ∧ ∃ o : Obj, X.heap[r]? = some o ∧ o.isCells = false) : InvN w q z T Y := by
  obtain ⟨h1, h2, h3, h4, ⟨D, h5, h6⟩, h7, h8⟩ := h
  refine ⟨h1, h2.kept hg (fun e => ?_), h3.kept hg (fun e => ?_), cell_kept h4 hg (fun r e => (hr r e).2), ⟨D, h5, h6.kept hg (fun e => ?_)⟩, h7.grown hg h7.size (fun k e => ?_), Nat.le_trans h8 hg.size⟩
  · have := (hr _ e.symm).1; omega
  · have := (hr _ e.symm).1; omega
  · have := (hr _ e.symm).1; omega
  · have := (hr k e).1; omega
theorem InvN.alloc {w : World} {q : Int} {z : Nat} {T : List EntD} {X : World} (h : InvN w q z T X) (o : Obj) : InvN w q z T (X.alloc o) :=
  InvN.own (Nat.le_refl _) h (World.grownBy_alloc X o none) (fun r e => by cases e)
theorem implNewer (lo : Nat) (q : Int) (am ak : Option Addr) (nm cm nk ck : Nat) (a0 a1 a2 : Option Addr) (n0 c0 n1 c1 n2 c2 : Nat) (M : List EntD) (A B C : List RunD) (w : World) (hM : EntsAt w am nm cm M) (h0 : RunsIn lo w a0 n0 c0 A) (h1 : RunsIn lo w a1 n1 c1 B) (h2 : RunsIn lo w a2 n2 c2 C) (s0 : n0 ≤ 8) (s1 : n1 ≤ 8) (s2 : n2 ≤ 8) (hsm : ∀ l ∈ listsL M A B C, l.length ≤ 150) :
    CallsIn Fence.wide 8 Tryz.prog 144 #[.agg #[.int .i64 q, .slice am nm cm, .slice a0 n0 c0, .slice a1 n1 c1, .slice a2 n2 c2, .slice ak nk ck]] w fun e w' => e = .returned (.bool (newerB q (listsL M A B C).flatten)) ∧ Below w.heap.size w w' := by
  have hpl : (listsL M A B C).length ≤ 25 := by
    have := h0.length; have := h1.length; have := h2.length
    simp [listsL]; omega
  obtain ⟨P, hP⟩ : ∃ P, listsL M A B C = P := ⟨_, rfl⟩
  have CL : Hid (∀ w', Below w.heap.size w w' → CallsIn Fence.wide (8 - 1) Tryz.prog 196 #[.agg #[.int .i64 q, .slice am nm cm, .slice a0 n0 c0, .slice a1 n1 c1, .slice a2 n2 c2, .slice ak nk ck]] w' (ListsR w w' P)) := fun w' k => by
    rw [← hP]
    exact callsIn_wide.2 (callsIn_wide.1 (implLists lo q am ak nm cm nk ck a0 a1 a2 n0 c0 n1 c1 n2 c2 M A B C w w' k hM h0 h1 h2 s0 s1 s2))
  rw [hP] at hsm hpl ⊢
  clear hM h0 h1 h2 s0 s1 s2 hP
  have HSM : Hid (∀ l ∈ P, l.length ≤ 150) := hsm
  clear hsm
  have hmm := @run_makeMap Tryz.prog
  refine callsIn_of_wp_marks Tryz.func144 rfl trivial ?_ rfl
  simp only [Tryz.ntmps144, List.size_toArray, List.length_cons, List.length_nil, Nat.reduceAdd, Nat.reduceSub, Array.replicate_succ, Array.replicate_zero, List.push_toArray, List.append_toArray, List.nil_append, List.cons_append]
  gi_wp2
  refine ⟨trivial, ?_⟩
  obtain ⟨Wm, hWm⟩ : ∃ Wm, Wm = ((((w.alloc (.cells #[.int .i64 q, .slice am nm cm, .slice a0 n0 c0, .slice a1 n1 c1, .slice a2 n2 c2, .slice ak nk ck] 67)).alloc (.cells #[.bool false] 4)).alloc (.map #[] 0)).alloc (.cells #[.map (some (w.heap.size + 1 + 1))] 205)) := ⟨_, rfl⟩
  have hBm : Below w.heap.size w Wm := by rw [hWm]; exact ((((Below.refl _ w).alloc (Nat.le_refl _) _).alloc (by simp) _).alloc (by simp; omega) _).alloc (by simp; omega) _
  have hszm : Wm.heap.size = w.heap.size + 4 := by rw [hWm]; simp
  have cS : Wm.cell? ⟨w.heap.size, 0, none⟩ = some (.int .i64 q) := by
    rw [hWm]
    refine cell_later ((Below.refl _ _).alloc (Nat.le_refl _) _) ?_
    refine cell_later ((Below.refl _ _).alloc (Nat.le_refl _) _) ?_
    refine cell_later ((Below.refl _ _).alloc (Nat.le_refl _) _) ?_
    simp
  have bR : Boxed Wm (w.heap.size + 1) 4 (.bool false) := by
    have := ((Boxed.new (w.alloc (.cells #[.int .i64 q, .slice am nm cm, .slice a0 n0 c0, .slice a1 n1 c1, .slice a2 n2 c2, .slice ak nk ck] 67)) 4 (.bool false)).alloc (.map #[] 0)).alloc (.cells #[.map (some (w.heap.size + 1 + 1))] 205)
    rw [World.size_alloc] at this
    rw [hWm]
    exact this
  have bM : Boxed Wm (w.heap.size + 1 + 1 + 1) 205 (.map (some (w.heap.size + 1 + 1))) := by
    have := Boxed.new (((w.alloc (.cells #[.int .i64 q, .slice am nm cm, .slice a0 n0 c0, .slice a1 n1 c1, .slice a2 n2 c2, .slice ak nk ck] 67)).alloc (.cells #[.bool false] 4)).alloc (.map #[] 0)) 205 (.map (some (w.heap.size + 1 + 1)))
    rw [World.size_alloc, World.size_alloc, World.size_alloc] at this
    rw [hWm]
    exact this
  have hm0 : Wm.ownsMap Tryz.prog 9 (plainElem (H := Unit) Tryz.prog 3) (w.heap.size + 1 + 1) 0 (.map []) := by
    have := (World.ownsMap_made ((w.alloc (.cells #[.int .i64 q, .slice am nm cm, .slice a0 n0 c0, .slice a1 n1 c1, .slice a2 n2 c2, .slice ak nk ck] 67)).alloc (.cells #[.bool false] 4)) Tryz.prog 9 (plainElem (H := Unit) Tryz.prog 3)).alloc (.cells #[.map (some (w.heap.size + 1 + 1))] 205)
    rw [World.size_alloc, World.size_alloc] at this
    rw [hWm]
    exact this
  rw [← hWm]
  clear hWm
  refine (CL.out Wm hBm).mono ?_
  rintro e W1 ⟨⟨g, n, c, vs, rfl, hrow, hH⟩, hb1⟩
  have hgm := hrow.lt g rfl
  have hvn : vs.length = n := by have := hrow.1; omega
  have hPn : P.length = n := by rw [← hH.1]; exact hvn
  have hrc : n ≤ c ∧ c ≤ maxLen := row_rooms hrow
  gi_wp2_with (refine ⟨trivial, ?_⟩; gi_at_call 195; refine (backL_in _ _ _ _ _).mono ?_; rintro e w' ⟨rfl, rfl⟩)
  subst hPn
  have each : ∀ i, i < P.length → ∃ t : Option Addr × Nat × Nat, vs[i]? = some (.slice t.1 t.2.1 t.2.2) ∧ EntsAt w t.1 t.2.1 t.2.2 ((P[i]?).getD []) := by
    intro i hi
    obtain ⟨s, m, d, e1, hE⟩ := hH.2 i _ (List.getElem?_eq_getElem hi)
    exact ⟨(s, m, d), e1, by rw [List.getElem?_eq_getElem hi]; exact hE⟩
  obtain ⟨t, ht⟩ := Deep.choose_lt each
  have HT : Hid (∀ i, i < P.length → EntsAt w (t i).1 (t i).2.1 (t i).2.2 ((P[i]?).getD [])) := fun i hi => (ht i hi).2
  have htc : ∀ i, i < P.length → W1.cell? ⟨g, i, none⟩ = some (.slice (t i).1 (t i).2.1 (t i).2.2) := fun i hi => (hrow.cellAt i (by omega)).trans (ht i hi).1
  clear ht each hH
  have k1a : Below W1.heap.size W1 (W1.alloc (.cells #[.slice (some ⟨g, 0, none⟩) P.length c] 103)) := (Below.refl _ _).alloc (Nat.le_refl _) _
  have bP := Boxed.new W1 103 (.slice (some ⟨g, 0, none⟩) P.length c)
  have i1 : InvN w q 0 [] W1 := ⟨rfl, bR.kept (grown_none hb1) (by simp), bM.kept (grown_none hb1) (by simp), cell_later hb1 cS, ⟨_, newIs_nil, hm0.kept (grown_none hb1) (by simp)⟩, hBm.trans (hb1.mono hBm.size), Nat.zero_le _⟩
  obtain ⟨W0, hW0⟩ : ∃ W0, W0 = W1.alloc (.cells #[.slice (some ⟨g, 0, none⟩) P.length c] 103) := ⟨_, rfl⟩
  have hsz0 : W0.heap.size = W1.heap.size + 1 := by rw [hW0]; simp
  have i0 : InvN w q W0.heap.size [] W0 := by rw [hW0]; obtain ⟨j1, j2, j3, j4, j5, j6, _⟩ := i1.alloc (.cells #[.slice (some ⟨g, 0, none⟩) P.length c] 103); exact ⟨j1, j2, j3, j4, j5, j6, Nat.le_refl _⟩
  have htc0 : ∀ i, i < P.length → W0.cell? ⟨g, i, none⟩ = some (.slice (t i).1 (t i).2.1 (t i).2.2) := fun i hi => by rw [hW0]; exact cell_later k1a (htc i hi)
  rw [← hW0] at bP ⊢
  have hsz1 := hb1.size
  have hz0 : W1.heap.size < W0.heap.size := by omega
  have hz1 : w.heap.size + 4 ≤ W1.heap.size := by omega
  have hz2 : w.heap.size + 4 ≤ g := by have := hgm.1; omega
  have hz3 : g < W1.heap.size := hgm.2
  clear hsz0 hszm hsz1 hgm hvn hBm
  clear hW0 i1 htc k1a bR bM cS hm0 hb1 hrow
  refine wpIn_rangeFunc_ownH rfl (by omega) (gf := 240) (lb := #[.pointer (some ⟨W1.heap.size, 0, none⟩)]) rfl trivial (enters_of Tryz.func240 (by kernel_rfl) rfl)
    (backL_stops (8 - 1) (by omega) W1.heap.size (fun k => k < W0.heap.size ∧ k ≠ w.heap.size + 1 + 1) (some ⟨g, 0, none⟩) P.length c (fun i => .slice (t i).1 (t i).2.1 (t i).2.2) W0 ⟨by omega, by omega⟩ bP.cell (fun _ => ⟨g, 0, rfl⟩) hrc.1 hrc.2 (fun k hk => hk.1) (fun b o e h1 => by cases e; exact ⟨⟨by omega, by omega⟩, fun i hi => by rw [Nat.zero_add]; exact htc0 i hi⟩))
    KeepS.trans (keepS_b (fun k hk => hk.1)) (Below.refl _ _) (fun _ => rfl)
    (fun pre W => InvN w q W0.heap.size (topL P pre) W)
    (fun cd pre W => (cd = .ret ∧ ∀ B, newerB q (B ++ topL P pre) = false) ∧ (Boxed W (w.heap.size + 1) 4 (.bool false) ∧ Below w.heap.size w W))
    (fun pre X Y row hs hg hr => InvN.own (by omega) hs hg hr)
    (fun cd => OwnFrom.and (ownFrom_pure _ _) (OwnFrom.and (Own.from (boxed_own _ _ _) _) (ownFrom_below (Nat.le_refl _) (by omega))))
    (by rw [topL_nil]; exact i0)
    (fun x a' _ => a' = { tmps := #[.agg #[.int .i64 q, .slice am nm cm, .slice a0 n0 c0, .slice a1 n1 c1, .slice a2 n2 c2, .slice ak nk ck], .pointer (some ⟨w.heap.size, 0, none⟩), .pointer (some ⟨w.heap.size + 1, 0, none⟩), .pointer (some ⟨w.heap.size + 1 + 1 + 1, 0, none⟩), undef, .slice (t x.1).1 (t x.1).2.1 (t x.1).2.2, undef, undef, .map (some (w.heap.size + 1 + 1)), .agg #[.int .i64 q, .slice am nm cm, .slice a0 n0 c0, .slice a1 n1 c1, .slice a2 n2 c2, .slice ak nk ck], .slice (some ⟨g, 0, none⟩) P.length c, .func (.func 240) #[] #[.pointer (some ⟨W1.heap.size, 0, none⟩)], .int .i64 (x.1 : Nat), .slice (t x.1).1 (t x.1).2.1 (t x.1).2.2, undef, undef, undef, undef, undef, undef, undef, undef, undef, undef, undef, undef, undef, undef, undef, undef, undef, undef, undef, undef, undef, undef, undef], defers := [] })
    (fun _ _ _ _ _ _ hs _ _ => hs)
    ?assign ?body ?done ?stop
  case assign =>
    rintro l pre x W K hi hK
    gi_wp2
    exact hK _ _ (KeepsFrom.refl _ _) (KeepS.refl _ _) hi rfl
  case body =>
    rintro l pre x a' W hl ⟨r, hr⟩ hI rfl hpl'
    have hE := HT.out x.1 x.2
    obtain ⟨s, m, d, hsmd⟩ : ∃ s m d, t x.1 = (s, m, d) := ⟨_, _, _, rfl⟩
    simp only [hsmd] at hE ⊢
    obtain ⟨L, hL⟩ : ∃ L, (P[x.1]?).getD [] = L := ⟨_, rfl⟩
    have hLsm : L.length ≤ 150 := by rw [← hL, List.getElem?_eq_getElem x.2]; exact HSM.out _ (List.getElem_mem x.2)
    rw [hL] at hE
    have hTsm := topL_len HSM.out pre
    have HTN : Hid (topL P (pre ++ [x]) = L ++ topL P pre) := by show _ = _; rw [topL_snoc, hL]
    clear hL
    obtain ⟨T, hT⟩ : ∃ T, topL P pre = T := ⟨_, rfl⟩
    rw [hT] at hI hTsm HTN
    clear hT
    have hm := hE.length
    subst hm
    have HE : Hid (EntsAt w s L.length d L) := hE
    clear hE hsmd
    gi_wp2_with (refine ⟨trivial, ?_⟩; gi_at_call 197; refine (CallsIn.inRound l (backE_in _ _ _ _ _)).mono ?_; rintro e w' ⟨rfl, rfl⟩)
    obtain ⟨i1, i2, i3, i4, i5, i6, i7⟩ := hI
    have hI : InvN w q W0.heap.size T W := ⟨i1, i2, i3, i4, i5, i6, i7⟩
    clear i1 i2 i3 i4 i5
    have hsW := i6.size
    have bN := Boxed.new W 33 (.slice s L.length d)
    have hr' : (W.alloc (.cells #[.slice s L.length d] 33)).heap[l]? = some (.loop r) := (Below.heap_alloc W _ l (Array.getElem?_eq_some_iff.1 hr).1).trans hr
    have kWi : Below w.heap.size w (W.alloc (.cells #[.slice s L.length d] 33)) := i6.alloc hsW _
    have hIi := hI.alloc (.cells #[.slice s L.length d] 33)
    refine wpIn_rangeFunc_ownN (l₀ := l) (r₀ := r) rfl hr' (by omega) (gf := 242) (lb := #[.pointer (some ⟨W.heap.size, 0, none⟩)]) rfl trivial (enters_of Tryz.func242 (by kernel_rfl) rfl)
      ((backE_stops (8 - 1 - 1 - 1) (by omega) W.heap.size (fun k => k < W.heap.size + 1 ∧ k ≠ w.heap.size + 1 + 1) s L.length d (fun i => .string (entA L i).1) (fun i => .int .i64 (entA L i).2.1) (fun i => .int .i64 (entA L i).2.2.1) (fun i => .string (entA L i).2.2.2.1) (fun i => .int .i64 (entA L i).2.2.2.2) _ ⟨by omega, by omega⟩ bN.cell (fun h => by obtain ⟨b, o, e, _⟩ := HE.out.form h; exact ⟨b, o, e⟩) HE.out.room HE.out.big (fun k hk => by simp; exact hk.1)
        (fun b o e h1 => by
          have hbw := (HE.out.lies _ e (by omega)).1
          simp only at hbw
          refine ⟨⟨by omega, by omega⟩, fun i hi => ?_⟩
          obtain ⟨g0, g1, g2, g3, g4⟩ := HE.out.cells _ e i hi
          simp only [entA_at hi]
          exact ⟨cell_later kWi g0, cell_later kWi g1, cell_later kWi g2, cell_later kWi g3, cell_later kWi g4⟩)).inRound l)
      KeepS.trans (keepS_b (fun k hk => by simp; exact hk.1)) (Below.refl _ _) (fun _ => rfl)
      (fun pre' W' => InvN w q W0.heap.size (topE L T pre') W' ∧ (KeepS (fun k => k < W0.heap.size ∧ k ≠ w.heap.size + 1 + 1) W W' ∧ (KeepsFrom W0.heap.size W W' ∧ W.heap.size + 1 ≤ W'.heap.size)))
      (fun cd pre' W' => (cd = .ret ∧ ∀ B, newerB q (B ++ topE L T pre') = false) ∧ (Boxed W' (w.heap.size + 1) 4 (.bool false) ∧ (Below w.heap.size w W' ∧ KeepsFrom W0.heap.size W W')))
      (OwnFrom.and (fun pre' X Y row hs hg hr => InvN.own (by simp; omega) hs hg hr) (OwnFrom.and (keepS_own (fun k hk => ⟨by omega, by simp; omega⟩)) (OwnFrom.and (ownFrom_keepsFrom (by simp)) size_own)))
      (fun cd => OwnFrom.and (ownFrom_pure _ _) (OwnFrom.and (Own.from (boxed_own _ _ _) _) (OwnFrom.and (ownFrom_below (Nat.le_refl _) (by simp; omega)) (ownFrom_keepsFrom (by simp)))))
      ⟨by rw [topE_nil]; exact hIi, KeepS.of ((Below.refl W.heap.size W).alloc (Nat.le_refl _) _) (fun k hk => by omega), (KeepsOthers.alloc _ _).from _, by simp⟩
      (fun y a'' W' => ∃ By, w.heap.size + 3 < By ∧ W'.cell? ⟨By, 0, none⟩ = some (.string (entA L y.1).1) ∧ W'.cell? ⟨By, 1, none⟩ = some (.int .i64 (entA L y.1).2.1) ∧ a'' = { tmps := #[.agg #[.int .i64 q, .slice am nm cm, .slice a0 n0 c0, .slice a1 n1 c1, .slice a2 n2 c2, .slice ak nk ck], .pointer (some ⟨w.heap.size, 0, none⟩), .pointer (some ⟨w.heap.size + 1, 0, none⟩), .pointer (some ⟨w.heap.size + 1 + 1 + 1, 0, none⟩), undef, .slice s L.length d, undef, .pointer (some ⟨By, 0, none⟩), .map (some (w.heap.size + 1 + 1)), .agg #[.int .i64 q, .slice am nm cm, .slice a0 n0 c0, .slice a1 n1 c1, .slice a2 n2 c2, .slice ak nk ck], .slice (some ⟨g, 0, none⟩) P.length c, .func (.func 240) #[] #[.pointer (some ⟨W1.heap.size, 0, none⟩)], .int .i64 (x.1 : Nat), .slice s L.length d, .slice s L.length d, .func (.func 242) #[] #[.pointer (some ⟨W.heap.size, 0, none⟩)], .int .i64 (y.1 : Nat), .agg #[.string (entA L y.1).1, .int .i64 (entA L y.1).2.1, .int .i64 (entA L y.1).2.2.1, .string (entA L y.1).2.2.2.1, .int .i64 (entA L y.1).2.2.2.2], undef, undef, undef, undef, undef, undef, undef, undef, undef, undef, undef, undef, undef, undef, undef, undef, undef, undef, undef], defers := [] })
      (fun y a'' _ X Y row hs hg hr => by obtain ⟨By, h1, h2, h3, h4⟩ := hs; exact ⟨By, h1, cell_kept h2 hg (fun r e => (hr r e).2), cell_kept h3 hg (fun r e => (hr r e).2), h4⟩)
      ?assign2 ?body2 ?done2 ?stop2
    case assign2 =>
      rintro l2 pre' y W' K ⟨hJ, hkS, hkF, hz⟩ hK
      gi_wp2
      refine hK _ _ ((KeepsOthers.alloc _ _).from _) (KeepS.of ((Below.refl W'.heap.size W').alloc (Nat.le_refl _) _) (fun k hk => by omega)) ⟨hJ.alloc _, hkS.trans (KeepS.of ((Below.refl W'.heap.size W').alloc (Nat.le_refl _) _) (fun k hk => by omega)), hkF.trans ((KeepsOthers.alloc _ _).from _), by simp; omega⟩ ⟨W'.heap.size, by omega, by simp, by simp, rfl⟩
    case body2 =>
      rintro l2 pre' y a'' W' _ _ ⟨⟨j1, j2, j3, j4, ⟨D, j5, j6⟩, j7, j8⟩, hkS, hkF, hz⟩ ⟨By, hBy, cy0, cy1, rfl⟩ hpl2
      have HTE : Hid (topE L T (pre' ++ [y]) = entA L y.1 :: topE L T pre') := topE_snoc L T pre' y
      have hTl := topE_len L T pre'
      obtain ⟨T', hT'⟩ : ∃ T', topE L T pre' = T' := ⟨_, rfl⟩
      rw [hT'] at j1 j5 j6 HTE hTl
      clear hT'
      have hew : EntW (entA L y.1) := by rw [entA_at y.2]; exact HE.out.ents _ (List.getElem_mem y.2)
      obtain ⟨e, he⟩ : ∃ e, entA L y.1 = e := ⟨_, rfl⟩
      rw [he] at cy0 cy1 HTE hew ⊢
      clear he
      obtain ⟨ek, eq, ed, et, en⟩ := e
      simp only at cy0 cy1
      have hks : ek.size ≤ maxLen := hew.1
      have hkey := Go.WideMaps.keyOf_string_mk (k := 9) Tryz.underlying9 (s := ek) hks
      have hqw : (Lit.int .i64 eq).wf = true := hew.2.1
      have HAT : Hid (D.atKey (.string ek.data.toList) (.lit (.int .i64 0)) = .lit (.int .i64 (topQ T' ek))) := j5.val ek
      have HNP : Hid (NewIs (D.put (.string ek.data.toList) (.lit (.int .i64 eq))) ((ek, eq, ed, et, en) :: T')) := j5.put (ek, eq, ed, et, en)
      have HST : Hid (topQ T' ek < eq → eq ≤ q → newerB q ((ek, eq, ed, et, en) :: T') = true) := fun h1 h2 => newer_step j1 h1 h2
      have HNO : Hid (¬ (topQ T' ek < eq ∧ eq ≤ q) → ∀ B, newerB q (B ++ (ek, eq, ed, et, en) :: T') = false) := fun h B => newer_stop (e := (ek, eq, ed, et, en)) h
      obtain ⟨c0', hc0⟩ : ∃ c0', topQ T' ek = c0' := ⟨_, rfl⟩
      rw [hc0] at HAT HST HNO
      clear hc0 j5 hew
      have cR := j2.cell
      have fR := j2.frozen
      have cM := j3.cell
      have HJ7 : Hid (Below w.heap.size w W') := j7
      have HKS : Hid (KeepS (fun k => k < W0.heap.size ∧ k ≠ w.heap.size + 1 + 1) W W') := hkS
      have HKF : Hid (KeepsFrom W0.heap.size W W') := hkF
      have hs7 := j7.size
      clear j7 hkS hkF
      by_cases hc1 : eq ≤ c0'
      · gi_wp2_with (gi_at_lookup; refine wpListIn_lookup_own_int _ rfl _ _ 205 rfl 9 3 .i64 (Maps.string_keyed Tryz.underlying9) Tryz.underlying205 Tryz.underlying3 (Tryz.zeroValue3 _) (w.heap.size + 1 + 1) T'.length _ rfl j6 _ _ rfl hkey ?_; intro cc hat hwc; obtain rfl : c0' = cc := by (have := HAT.out.symm.trans hat; simpa using this))
        exact ⟨(KeepsOthers.setCell _ _ _).from _, ⟨rfl, fun B => by rw [HTE.out]; exact HNO.out (by omega) B⟩, j2.set _, HJ7.out.setCell (p := ⟨w.heap.size + 1, 0, none⟩) (by simp) _, HKF.out.trans ((KeepsOthers.setCell _ _ _).from _)⟩
      · by_cases hc2 : q < eq
        · gi_wp2_with (gi_at_lookup; refine wpListIn_lookup_own_int _ rfl _ _ 205 rfl 9 3 .i64 (Maps.string_keyed Tryz.underlying9) Tryz.underlying205 Tryz.underlying3 (Tryz.zeroValue3 _) (w.heap.size + 1 + 1) T'.length _ rfl j6 _ _ rfl hkey ?_; intro cc hat hwc; obtain rfl : c0' = cc := by (have := HAT.out.symm.trans hat; simpa using this))
          exact ⟨(KeepsOthers.setCell _ _ _).from _, ⟨rfl, fun B => by rw [HTE.out]; exact HNO.out (by omega) B⟩, j2.set _, HJ7.out.setCell (p := ⟨w.heap.size + 1, 0, none⟩) (by simp) _, HKF.out.trans ((KeepsOthers.setCell _ _ _).from _)⟩
        · gi_wp2_with (first
            | (gi_at_lookup; refine wpListIn_lookup_own_int _ rfl _ _ 205 rfl 9 3 .i64 (Maps.string_keyed Tryz.underlying9) Tryz.underlying205 Tryz.underlying3 (Tryz.zeroValue3 _) (w.heap.size + 1 + 1) T'.length _ rfl j6 _ _ rfl hkey ?_; intro cc hat hwc; obtain rfl : c0' = cc := by (have := HAT.out.symm.trans hat; simpa using this))
            | (gi_at_mapUpdate; refine wpListIn_mapUpdate_own _ rfl _ _ _ 205 rfl 9 3 (Maps.string_keyed Tryz.underlying9) Tryz.underlying205 _ (w.heap.size + 1 + 1) T'.length _ rfl j6 ?_ _ _ _ rfl rfl hkey _ [] (plainElem_int Tryz.underlying3 hqw) ?_; unfold maxLen; omega; intro w1 hown1 hgrow1))
          refine ⟨KeepsFrom.of_grownBy hgrow1 (fun j e => by cases e; simp; omega), KeepS.grown hgrow1 (fun k hk => ⟨by omega, fun e => hk.2 (by cases e; rfl)⟩), ⟨?_, HKS.out.trans (KeepS.grown hgrow1 (fun k hk => ⟨by omega, fun e => hk.2 (by cases e; rfl)⟩)), HKF.out.trans (KeepsFrom.of_grownBy hgrow1 (fun j e => by cases e; omega)), Nat.le_trans hz hgrow1.size⟩⟩
          rw [HTE.out]
          exact ⟨HST.out (by omega) (by omega), j2.kept hgrow1 (by simp), j3.kept hgrow1 (by simp), hgrow1.cell j4 (by simp; omega), ⟨_, HNP.out, hown1⟩, HJ7.out.grown hgrow1 hs7 (fun k e => by cases e; omega), Nat.le_trans j8 hgrow1.size⟩
    case done2 =>
      rintro ys' W' rfl ⟨hJ, hkS, hkF, hz⟩
      rw [topE_all] at hJ
      gi_wp2
      refine ⟨hkF, hkS, ?_⟩
      show InvN w q W0.heap.size (topL P (pre ++ [x])) W'
      rw [HTN.out]
      exact hJ
    case stop2 =>
      rintro cd pre' W' hpre ⟨⟨rfl, hno⟩, bR2, hB2, hkF⟩
      gi_wp2
      obtain ⟨B0, hB0⟩ := topE_pre (T := T) hpre
      exact ⟨hkF, ⟨rfl, fun B => by rw [HTN.out, hB0, ← List.append_assoc]; exact hno _⟩, bR2, hB2⟩
  case done =>
    rintro D zs W hD rfl ⟨j1, j2, j3, j4, j5, j6, j7⟩ hK
    rw [topL_all] at j1
    have cR := j2.cell
    have fR := j2.frozen
    gi_wp2
    have hK' := (KeepsOthers.setCell W ⟨w.heap.size + 1, 0, none⟩ (.bool true)).same D _ hK rfl
    refine ⟨by simp, .inl ⟨_, _, rfl, run_takeDeferred hK', ?_⟩⟩
    have hc5 := cell_kept (j2.set (.bool true)).cell (grownBy_putObj' _ D (.deferred none)) (fun r e => by cases e; exact ⟨_, hK', rfl⟩)
    refine ⟨.bool true, ?_, by rw [j1], (j6.setCell (p := ⟨w.heap.size + 1, 0, none⟩) (by simp) _).trans (belowK_b (w := w) (Nat.le_refl _) _ D _ _ (by omega) hK' rfl rfl)⟩
    simp [results, Tryz.f144, go_sem, hc5]
  case stop =>
    rintro D cd pre W hD hpre ⟨⟨rfl, hno⟩, bR1, hB1⟩ hK
    gi_wp2
    refine ⟨by simp, .inl ⟨_, _, rfl, run_takeDeferred hK, ?_⟩⟩
    have hc5 := cell_kept bR1.cell (grownBy_putObj' _ D (.deferred none)) (fun r e => by cases e; exact ⟨_, hK, rfl⟩)
    obtain ⟨B0, hB0⟩ := topL_pre hpre
    refine ⟨.bool false, ?_, by rw [hB0, hno], hB1.trans (belowK_b (w := w) (Nat.le_refl _) W D _ _ (by omega) hK rfl rfl)⟩
    simp [results, Tryz.f144, go_sem, hc5]
end Go.Proofs.YtapjkbpfhmbfaaaGreatDoor
