/-
  What is left of entries tells the same as they do, at each time that is kept. Plain.
-/
import Derived.Test.YtlmgojlffgkciaaGreatFb31
import Derived.Test.YtlmgojlffgkciaaGreatFb32
namespace Go.Proofs.YtlmgojlffgkciaaGreat

/-- What entries of one key tell, the newest first, above what is known already. -/
def ev (M : List EntD) (c : CellD) : CellD := M.foldr (fun e c => doC c e) c
def noC : CellD := (false, ⟨#[]⟩, 0)
theorem ev_app (A B : List EntD) (c : CellD) : ev (A ++ B) c = ev A (ev B c) := by simp [ev]
theorem foldC_rev (M : List EntD) : foldC M.reverse = ev M noC := by
  unfold foldC ev noC
  rw [List.foldl_reverse]

/-- Entries in order: pair by pair. -/
theorem right_pair {L : List EntD} (h : rightB L = true) : L.Pairwise (fun a b => lessB a.1 a.2.1 b.1 b.2.1 = true) := by
  rw [List.pairwise_iff_getElem]
  intro i j hi hj hij
  exact right_less h hij (List.getElem?_eq_getElem hi) (List.getElem?_eq_getElem hj)
theorem less_time {a b : EntD} (h : lessB a.1 a.2.1 b.1 b.2.1 = true) (hk : a.1 = b.1) : b.2.1 < a.2.1 := by
  rcases lessB_true h with h1 | h1
  · rw [hk, bless_self] at h1; cases h1
  · exact h1.2
theorem cell_ev {L : List EntD} (h : L.Pairwise (fun a b => lessB a.1 a.2.1 b.1 b.2.1 = true)) (key : ByteArray) (seq : Int) : cellL L key seq = ev (findL L key seq) noC := by
  have hp : (findL L key seq).Pairwise (fun a b => b.2.1 < a.2.1) := by
    unfold findL
    rw [List.pairwise_filter]
    refine h.imp ?_
    intro a b hab ha hb
    simp only [Bool.and_eq_true, decide_eq_true_eq] at ha hb
    exact less_time hab (by rw [ha.1, hb.1])
  have hu : UnT (findL L key seq).reverse := by
    unfold UnT
    rw [List.pairwise_reverse]
    exact hp.imp (fun h => by omega)
  have h1 : cutC (findL L key seq) = (findL L key seq).reverse := by
    have hu2 : UnT (findL L key seq) := hp.imp (fun h => by omega)
    refine strict_same ((cutC_perm _).trans (List.reverse_perm _).symm) (cutC_strict hu2) ?_
    rw [List.pairwise_reverse]
    exact hp.imp (fun h => h)
  unfold cellL
  rw [h1, foldC_rev]

/-! One class. -/
open Go.RowKit in
def AddS (s : Int) (X : CellD) : CellD := (true, X.2.1, wrap64 (X.2.2 + s))
theorem doC_1 (X : CellD) {e : EntD} (h : e.2.2.1 = 1) : doC X e = (true, e.2.2.2.1, e.2.2.2.2) := by simp [doC, cellN, h]
theorem doC_2 (X : CellD) {e : EntD} (h : e.2.2.1 = 2) : doC X e = (false, ⟨#[]⟩, 0) := by simp [doC, cellN, h]
theorem doC_3 (X : CellD) {e : EntD} (h : e.2.2.1 = 3) : doC X e = AddS e.2.2.2.2 X := by simp [doC, cellN, h, AddS]
open Go.RowKit in
theorem wrap_wrap (x a b : Int) : wrap64 (wrap64 (x + a) + b) = wrap64 (x + (b + a)) := by unfold wrap64; omega
open Go.RowKit in
theorem wrap_ok {n : Int} (h : sumOkB n = true) : wrap64 n = n := by
  simp only [sumOkB, Bool.and_eq_true, decide_eq_true_eq] at h
  unfold wrap64
  omega
theorem add_add (a b : Int) (X : CellD) : AddS a (AddS b X) = AddS (a + b) X := by
  unfold AddS
  simp only [wrap_wrap]
/-- A kind, and nothing in what takes away. -/
def KdE (e : EntD) : Prop := (e.2.2.1 = 1 ∨ e.2.2.1 = 2 ∨ e.2.2.1 = 3) ∧ (e.2.2.1 = 2 → e.2.2.2.2 = 0)
open Go.RowKit in
theorem join_more : ∀ (L : List EntD) (acc : Int) (X : CellD), (∀ e ∈ L, KdE e) →
    AddS acc (ev L X) = (if (joinG false acc L).1 = 3 then AddS (joinG false acc L).2.2 X else (true, (joinG false acc L).2.1, wrap64 (joinG false acc L).2.2)) ∧ ((joinG false acc L).1 = 1 ∨ ((joinG false acc L).1 = 3 ∧ (joinG false acc L).2.1 = ⟨#[]⟩))
  | [], acc, X, _ => by simp [joinG, ev]
  | e :: R, acc, X, h => by
    obtain ⟨hk, h0⟩ := h e List.mem_cons_self
    have e1 : ev (e :: R) X = doC (ev R X) e := rfl
    rw [e1]
    rcases hk with hk | hk | hk
    · have hj : joinG false acc (e :: R) = (1, e.2.2.2.1, acc + e.2.2.2.2) := by simp [joinG, hk]
      rw [hj, doC_1 _ hk]
      simp only [AddS]
      rw [if_neg (by omega), Int.add_comm]
      exact ⟨rfl, .inl trivial⟩
    · have hj : joinG false acc (e :: R) = (1, ⟨#[]⟩, acc + e.2.2.2.2) := by simp [joinG, hk]
      rw [hj, doC_2 _ hk, h0 hk]
      simp only [AddS]
      rw [if_neg (by omega), Int.add_comm]
      exact ⟨rfl, .inl trivial⟩
    · have hj : joinG false acc (e :: R) = joinG false (acc + e.2.2.2.2) R := by
        conv => lhs; unfold joinG
        rw [if_neg (by omega), if_neg (by omega)]
      rw [hj, doC_3 _ hk, add_add]
      exact join_more R (acc + e.2.2.2.2) X (fun x hx => h x (List.mem_cons_of_mem _ hx))
theorem class_same (b : Bool) (c : List EntD) (X : CellD) (h : ∀ e ∈ c, KdE e) (hb : b = true → X = noC) (hN : ∀ e ∈ c, sumOkB e.2.2.2.2 = true) : ev (clS b c) X = ev c X := by
  match c, h, hN with
  | [], _, _ => rfl
  | e :: R, h, hN =>
    obtain ⟨hk, h0⟩ := h e List.mem_cons_self
    have e1 : ev (e :: R) X = doC (ev R X) e := rfl
    show ev (classG b e.1 e.2.1 (e :: R)) X = _
    unfold classG
    by_cases hs : sumOkB (joinG true 0 (e :: R)).2.2 = true
    · rw [if_pos hs]
      rcases hk with hk | hk | hk
      · have hj : joinG true 0 (e :: R) = (1, e.2.2.2.1, 0 + e.2.2.2.2) := by simp [joinG, hk]
        rw [hj, if_neg (by simp), e1, doC_1 _ hk]
        show doC X (e.1, e.2.1, (if b = true ∧ (1 : Int) = 3 then 1 else 1), e.2.2.2.1, 0 + e.2.2.2.2) = _
        rw [if_neg (by omega), doC_1 _ rfl]
        simp
      · have hj : joinG true 0 (e :: R) = (2, ⟨#[]⟩, 0 + e.2.2.2.2) := by simp [joinG, hk]
        rw [hj, e1, doC_2 _ hk]
        cases b with
        | true =>
          rw [if_pos ⟨rfl, rfl⟩, hb rfl]
          rfl
        | false =>
          rw [if_neg (by simp)]
          show doC X (e.1, e.2.1, (if false = true ∧ (2 : Int) = 3 then 1 else 2), (⟨#[]⟩ : ByteArray), 0 + e.2.2.2.2) = _
          rw [if_neg (by simp), doC_2 _ rfl]
      · have hj : joinG true 0 (e :: R) = joinG false (0 + e.2.2.2.2) R := by
          conv => lhs; unfold joinG
          rw [if_neg (by omega), if_neg (by omega)]
        have hm := join_more R (0 + e.2.2.2.2) X (fun x hx => h x (List.mem_cons_of_mem _ hx))
        rw [hj] at hs ⊢
        obtain ⟨d, t, s, hdts⟩ : ∃ d t s, joinG false (0 + e.2.2.2.2) R = (d, t, s) := ⟨_, _, _, rfl⟩
        rw [hdts] at hs hm ⊢
        simp only at hs hm ⊢
        have e2 : ev (e :: R) X = AddS (0 + e.2.2.2.2) (ev R X) := by rw [e1, doC_3 _ hk]; simp
        rw [e2, hm.1]
        rcases hm.2 with rfl | ⟨rfl, rfl⟩
        · rw [if_neg (by simp), if_neg (by omega), if_neg (by omega)]
          show doC X (e.1, e.2.1, 1, t, s) = _
          rw [doC_1 _ rfl, wrap_ok hs]
        · rw [if_neg (by simp), if_pos rfl]
          cases b with
          | true =>
            show doC X (e.1, e.2.1, (if true = true ∧ (3 : Int) = 3 then 1 else 3), (⟨#[]⟩ : ByteArray), s) = _
            rw [if_pos ⟨rfl, rfl⟩, doC_1 _ rfl, hb rfl]
            unfold AddS noC
            simp only [Int.zero_add]
            rw [wrap_ok hs]
          | false =>
            show doC X (e.1, e.2.1, (if false = true ∧ (3 : Int) = 3 then 1 else 3), (⟨#[]⟩ : ByteArray), s) = _
            rw [if_neg (by simp), doC_3 _ rfl]
    · rw [if_neg hs]
theorem clS_mem (b : Bool) : ∀ (c : List EntD) (x : EntD), x ∈ clS b c → ∃ y ∈ c, x.1 = y.1 ∧ x.2.1 = y.2.1
  | [], x, h => by cases h
  | e :: R, x, h => by
    have h' : x ∈ classG b e.1 e.2.1 (e :: R) := h
    unfold classG at h'
    by_cases h1 : sumOkB (joinG true 0 (e :: R)).2.2 = true
    · rw [if_pos h1] at h'
      by_cases h2 : b = true ∧ (joinG true 0 (e :: R)).1 = 2
      · rw [if_pos h2] at h'; cases h'
      · rw [if_neg h2] at h'
        have := List.mem_singleton.1 h'
        rw [this]
        exact ⟨e, List.mem_cons_self, rfl, rfl⟩
    · rw [if_neg h1] at h'
      exact ⟨x, h', rfl, rfl⟩

/-! The classes of a key. -/
def seenB (key : ByteArray) (t : Int) (e : EntD) : Bool := decide (e.1 = key) && decide (e.2.1 ≤ t)
theorem find_seen (L : List EntD) (key : ByteArray) (t : Int) : findL L key t = L.filter (seenB key t) := rfl
theorem seen_congr {key : ByteArray} {t : Int} {x y : EntD} (h1 : x.1 = y.1) (h2 : x.2.1 = y.2.1) : seenB key t x = seenB key t y := by unfold seenB; rw [h1, h2]
theorem cl_filter (b : Bool) {c : List EntD} {key : ByteArray} {t : Int} {v : Bool} (h : ∀ e ∈ c, seenB key t e = v) : (clS b c).filter (seenB key t) = if v = true then clS b c else [] := by
  have h' : ∀ e ∈ clS b c, seenB key t e = v := fun e he => by
    obtain ⟨y, hy, h1, h2⟩ := clS_mem b c e he
    rw [seen_congr h1 h2]
    exact h y hy
  cases v with
  | true => rw [if_pos rfl]; exact List.filter_eq_self.2 h'
  | false => rw [if_neg (by simp)]; exact List.filter_eq_nil_iff.2 (fun e he => by rw [h' e he]; simp)
theorem all_filter {c : List EntD} {key : ByteArray} {t : Int} {v : Bool} (h : ∀ e ∈ c, seenB key t e = v) : c.filter (seenB key t) = if v = true then c else [] := by
  cases v with
  | true => rw [if_pos rfl]; exact List.filter_eq_self.2 h
  | false => rw [if_neg (by simp)]; exact List.filter_eq_nil_iff.2 (fun e he => by rw [h e he]; simp)
theorem left_same (bottom : Bool) (key : ByteArray) (t : Int) (X : CellD) (hX : bottom = true → X = noC) : ∀ Cs : List (List EntD), (∀ c ∈ Cs, (∀ e ∈ c, KdE e ∧ sumOkB e.2.2.2.2 = true) ∧ ∃ v, ∀ e ∈ c, seenB key t e = v) →
    ev ((Cs.foldr (Sq.stepD clS) (bottom, [])).2.filter (seenB key t)) X = ev (Cs.flatten.filter (seenB key t)) X ∧ ((Cs.foldr (Sq.stepD clS) (bottom, [])).1 = true → (Cs.foldr (Sq.stepD clS) (bottom, [])).2 = [] ∧ bottom = true)
  | [], _ => by simp
  | c :: Cs, h => by
    obtain ⟨i1, i2⟩ := left_same bottom key t X hX Cs (fun x hx => h x (List.mem_cons_of_mem _ hx))
    obtain ⟨hc, v, hv⟩ := h c List.mem_cons_self
    rw [List.foldr_cons, List.flatten_cons]
    obtain ⟨bb, R, hst⟩ : ∃ bb R, Cs.foldr (Sq.stepD clS) (bottom, []) = (bb, R) := ⟨_, _, rfl⟩
    rw [hst] at i1 i2 ⊢
    simp only at i1 i2
    unfold Sq.stepD
    simp only
    refine ⟨?_, ?_⟩
    · rw [List.filter_append, List.filter_append, ev_app, ev_app, cl_filter bb hv, all_filter hv, ← i1]
      cases v with
      | true =>
        rw [if_pos rfl, if_pos rfl]
        exact class_same bb c _ (fun e he => (hc e he).1) (fun hb => by rw [(i2 hb).1, hX (i2 hb).2]; rfl) (fun e he => (hc e he).2)
      | false => rfl
    · intro hb
      by_cases he : (clS bb c).isEmpty = true
      · rw [if_pos he] at hb
        rw [List.isEmpty_iff.1 he, (i2 hb).1]
        exact ⟨rfl, (i2 hb).2⟩
      · rw [if_neg he] at hb; cases hb
theorem part_chain (r : EntD → EntD → Bool) : ∀ (L : List EntD) (c : List EntD), c ∈ Sq.parts r L → ∀ (j : Nat) x y, c[j]? = some x → c[j + 1]? = some y → r x y = true
  | [], c, h => by simp [Sq.parts] at h
  | z :: L, c, h => by
    have ih := part_chain r L
    rw [Sq.parts_cons] at h
    unfold Sq.putP at h
    split at h
    · rename_i w c' cs hp
      rw [hp] at ih
      by_cases hr : r z w = true
      · rw [if_pos hr] at h
        rcases List.mem_cons.1 h with rfl | h
        · intro j x y hx hy
          match j, hx, hy with
          | 0, hx, hy =>
            simp at hx hy
            subst hx
            subst hy
            exact hr
          | j + 1, hx, hy => exact ih _ List.mem_cons_self j x y (by simpa using hx) (by simpa using hy)
        · exact ih c (List.mem_cons_of_mem _ h)
      · rw [if_neg hr] at h
        rcases List.mem_cons.1 h with rfl | h
        · intro j x y hx hy
          simp at hy
        · exact ih c h
    · rcases List.mem_cons.1 h with rfl | h
      · intro j x y hx hy
        simp at hy
      · exact ih c h
theorem chain_all {f : EntD → Bool} {c : List EntD} (h : ∀ (j : Nat) x y, c[j]? = some x → c[j + 1]? = some y → f x = f y) : ∃ v, ∀ e ∈ c, f e = v := by
  match c, h with
  | [], _ => exact ⟨true, fun e he => by cases he⟩
  | e0 :: R, h =>
    refine ⟨f e0, fun e he => ?_⟩
    obtain ⟨i, hi⟩ := List.getElem?_of_mem he
    have key : ∀ (i : Nat) (e : EntD), (e0 :: R)[i]? = some e → f e = f e0 := by
      intro i
      induction i with
      | zero => intro e he; simp at he; rw [he]
      | succ i ih =>
        intro e he
        have hl : i + 1 < (e0 :: R).length := (List.getElem?_eq_some_iff.1 he).1
        have hx := List.getElem?_eq_getElem (l := e0 :: R) (i := i) (by omega)
        rw [← h i _ e hx he]
        exact ih _ hx
    exact key i e hi

/-! All keys. -/
theorem group_key {L : List EntD} {G : List EntD} (h : G ∈ Sq.parts keyEq L) : ∃ k, ∀ e ∈ G, e.1 = k := by
  match G, part_ne _ _ G h, part_chain keyEq L G h with
  | e0 :: R, _, hc =>
    refine ⟨e0.1, fun e he => ?_⟩
    obtain ⟨i, hi⟩ := List.getElem?_of_mem he
    have key : ∀ (i : Nat) (e : EntD), (e0 :: R)[i]? = some e → e.1 = e0.1 := by
      intro i
      induction i with
      | zero => intro e he; simp at he; rw [he]
      | succ i ih =>
        intro e he
        have hl : i + 1 < (e0 :: R).length := (List.getElem?_eq_some_iff.1 he).1
        have hx := List.getElem?_eq_getElem (l := e0 :: R) (i := i) (by omega)
        have := hc i _ e hx he
        unfold keyEq at this
        rw [← of_decide_eq_true this]
        exact ih _ hx
    exact key i e hi
/-- Parts of unlike keys. -/
theorem group_apart : ∀ L : List EntD, L.Pairwise (fun a b => lessB a.1 a.2.1 b.1 b.2.1 = true) → (Sq.parts keyEq L).Pairwise (fun G H => ∀ x ∈ G, ∀ y ∈ H, x.1 ≠ y.1)
  | [], _ => List.Pairwise.nil
  | z :: L, h => by
    obtain ⟨hz, hL⟩ := List.pairwise_cons.1 h
    have ih := group_apart L hL
    have hf := Sq.parts_flat keyEq L
    rw [Sq.parts_cons]
    unfold Sq.putP
    split
    · rename_i w c cs hp
      rw [hp] at ih hf
      obtain ⟨i1, i2⟩ := List.pairwise_cons.1 ih
      have hwL : w ∈ L := by rw [← hf]; simp
      by_cases hr : keyEq z w = true
      · rw [if_pos hr]
        refine List.pairwise_cons.2 ⟨fun H hH x hx y hy => ?_, i2⟩
        rcases List.mem_cons.1 hx with rfl | hx
        · have e := of_decide_eq_true (show decide (x.1 = w.1) = true from hr)
          rw [e]
          exact i1 H hH w List.mem_cons_self y hy
        · exact i1 H hH x hx y hy
      · rw [if_neg hr]
        refine List.pairwise_cons.2 ⟨fun H hH x hx y hy => ?_, ih⟩
        rw [List.mem_singleton] at hx
        subst hx
        have hne : x.1 ≠ w.1 := fun e => hr (decide_eq_true e)
        have hyL : y ∈ L := by rw [← hf]; exact List.mem_flatten.2 ⟨H, hH, hy⟩
        have h1 : Op.bytesLess x.1.data.toList w.1.data.toList = true := by
          rcases lessB_true (hz w hwL) with h | h
          · exact h
          · exact absurd h.1 hne
        intro e
        rcases List.mem_cons.1 hH with rfl | hH'
        · rcases List.mem_cons.1 hy with rfl | hy'
          · exact hne e
          · have hw' : ∃ k, ∀ e ∈ (w :: c), e.1 = k := group_key (L := L) (by rw [hp]; exact List.mem_cons_self)
            obtain ⟨k, hk⟩ := hw'
            exact hne (by rw [e, hk y (List.mem_cons_of_mem _ hy'), hk w List.mem_cons_self])
        · have hwy : lessB w.1 w.2.1 y.1 y.2.1 = true := by
            rw [← hf, List.flatten_cons] at hL
            have := (List.pairwise_append.1 hL).2.2
            exact this w List.mem_cons_self y (List.mem_flatten.2 ⟨H, hH', hy⟩)
          have h2 : Op.bytesLess x.1.data.toList y.1.data.toList = true := by
            rcases lessB_true hwy with h | h
            · exact bless_trans _ _ _ h1 h
            · rw [← h.1]; exact h1
          rw [e, bless_self] at h2
          cases h2
    · rename_i hno
      refine List.pairwise_cons.2 ⟨fun H hH x hx y hy => ?_, ih⟩
      cases L with
      | nil => simp [Sq.parts] at hH
      | cons w R =>
        obtain ⟨c, cs, hp⟩ := Sq.parts_head keyEq w R
        exact absurd hp (hno _ _ _)
theorem left_mem (S : List Int) (bottom : Bool) (G : List EntD) : ∀ x ∈ leftS S bottom G, ∃ y ∈ G, x.1 = y.1 ∧ x.2.1 = y.2.1 := by
  have key : ∀ Cs : List (List EntD), ∀ x ∈ (Cs.foldr (Sq.stepD clS) (bottom, [])).2, ∃ y ∈ Cs.flatten, x.1 = y.1 ∧ x.2.1 = y.2.1 := by
    intro Cs
    induction Cs with
    | nil => intro x hx; cases hx
    | cons c Cs ih =>
      intro x hx
      rw [List.foldr_cons] at hx
      generalize Cs.foldr (Sq.stepD clS) (bottom, []) = st at ih hx
      have hx' : x ∈ clS st.1 c ++ st.2 := hx
      rcases List.mem_append.1 hx' with h | h
      · obtain ⟨y, hy, h'⟩ := clS_mem _ _ x h
        exact ⟨y, by rw [List.flatten_cons]; exact List.mem_append_left _ hy, h'⟩
      · obtain ⟨y, hy, h'⟩ := ih x h
        exact ⟨y, by rw [List.flatten_cons]; exact List.mem_append_right _ hy, h'⟩
  intro x hx
  have := key _ x hx
  rwa [Sq.parts_flat] at this
theorem other_key {G : List EntD} {key k : ByteArray} {t : Int} (h : ∀ e ∈ G, e.1 = k) (hne : k ≠ key) : G.filter (seenB key t) = [] :=
  List.filter_eq_nil_iff.2 (fun e he => by
    unfold seenB
    rw [h e he]
    simp [hne])
theorem groups_same (S : List Int) (bottom : Bool) (key : ByteArray) (t : Int) (X : CellD) (hX : bottom = true → X = noC) : ∀ Gs : List (List EntD), Gs.Pairwise (fun G H => ∀ x ∈ G, ∀ y ∈ H, x.1 ≠ y.1) → (∀ G ∈ Gs, G ≠ [] ∧ (∃ k, ∀ e ∈ G, e.1 = k) ∧ (∀ e ∈ G, KdE e ∧ sumOkB e.2.2.2.2 = true) ∧ ∀ c ∈ Sq.parts (cutB S) G, ∃ v, ∀ e ∈ c, seenB key t e = v) →
    ev ((Gs.flatMap (leftS S bottom)).filter (seenB key t)) X = ev (Gs.flatten.filter (seenB key t)) X
  | [], _, _ => rfl
  | G :: Gs, hp, h => by
    obtain ⟨p1, p2⟩ := List.pairwise_cons.1 hp
    have ih := groups_same S bottom key t X hX Gs p2 (fun x hx => h x (List.mem_cons_of_mem _ hx))
    obtain ⟨hne, ⟨k, hk⟩, hG, hC⟩ := h G List.mem_cons_self
    rw [List.flatMap_cons, List.flatten_cons, List.filter_append, List.filter_append, ev_app, ev_app]
    have hlk : ∀ e ∈ leftS S bottom G, e.1 = k := fun e he => by
      obtain ⟨y, hy, h1, _⟩ := left_mem S bottom G e he
      rw [h1]; exact hk y hy
    by_cases e : k = key
    · subst e
      obtain ⟨g0, hg0⟩ := List.exists_mem_of_ne_nil G hne
      have r1 : Gs.flatten.filter (seenB k t) = [] := List.filter_eq_nil_iff.2 (fun x hx => by
        obtain ⟨H, hH, hxH⟩ := List.mem_flatten.1 hx
        have := p1 H hH g0 hg0 x hxH
        rw [hk g0 hg0] at this
        unfold seenB
        simp [Ne.symm this])
      have r2 : (Gs.flatMap (leftS S bottom)).filter (seenB k t) = [] := List.filter_eq_nil_iff.2 (fun x hx => by
        obtain ⟨H, hH, hxH⟩ := List.mem_flatMap.1 hx
        obtain ⟨y, hy, h1, _⟩ := left_mem S bottom H x hxH
        have := p1 H hH g0 hg0 y hy
        rw [hk g0 hg0] at this
        unfold seenB
        rw [h1]
        simp [Ne.symm this])
      rw [r1, r2]
      have := (left_same bottom k t X hX (Sq.parts (cutB S) G) (fun c hc => ⟨fun e he => hG e ((part_len _ _ c hc).2 e he), hC c hc⟩)).1
      rw [Sq.parts_flat] at this
      exact this
    · rw [other_key hlk e, other_key hk e]
      exact ih
/-- What is left tells the same, at a time that is kept and at the last. -/
theorem squash_tells_on {L : List EntD} (hr : rightB L = true) (S : List Int) (bottom : Bool) (key : ByteArray) (t : Int) (ht : t ∈ S ∨ 100000 ≤ t) (X : CellD) (hX : bottom = true → X = noC) : ev (findL (squashL L S bottom) key t) X = ev (findL L key t) X := by
  have hp := right_pair hr
  unfold squashL
  rw [if_pos hr, find_seen, find_seen]
  have := groups_same S bottom key t X hX (Sq.parts keyEq L) (group_apart L hp) (fun G hG => ⟨part_ne _ _ G hG, group_key hG, fun e he => ?_, fun c hc => ?_⟩)
  · rw [Sq.parts_flat] at this
    exact this
  · obtain ⟨j, hj⟩ := List.getElem?_of_mem ((part_len _ _ G hG).2 e he)
    have hb := right_ent hr hj
    unfold entB at hb
    simp only [Bool.and_eq_true, decide_eq_true_eq] at hb
    obtain ⟨_, _, _, h3, h4, _, h6⟩ := hb
    refine ⟨⟨?_, ?_⟩, by simp [sumOkB, h3, h4]⟩
    · by_cases d1 : e.2.2.1 = 1
      · exact .inl d1
      · by_cases d2 : e.2.2.1 = 2
        · exact .inr (.inl d2)
        · by_cases d3 : e.2.2.1 = 3
          · exact .inr (.inr d3)
          · rw [kindB_0 d1 d2 d3] at h6; cases h6
    · intro d2
      rw [d2, kindB_2] at h6
      simp only [Bool.and_eq_true, decide_eq_true_eq] at h6
      exact h6.2
  · have hcL : ∀ e ∈ c, e ∈ L := fun e he => (part_len _ _ G hG).2 e ((part_len _ _ c hc).2 e he)
    obtain ⟨k, hk⟩ := group_key hG
    rcases ht with ht | ht
    · refine chain_all (fun j x y hx hy => ?_)
      have h1 := part_chain (cutB S) G c hc j x y hx hy
      have hxG := (part_len _ _ c hc).2 x (List.mem_of_getElem? hx)
      have hyG := (part_len _ _ c hc).2 y (List.mem_of_getElem? hy)
      have hxy : y.2.1 < x.2.1 := by
        have hGs : (Sq.parts keyEq L).flatten = L := Sq.parts_flat _ _
        have hpc : c.Pairwise (fun a b => lessB a.1 a.2.1 b.1 b.2.1 = true) := by
          obtain ⟨A, B, e⟩ := List.append_of_mem hG
          have h2 : G.Pairwise (fun a b => lessB a.1 a.2.1 b.1 b.2.1 = true) := by
            rw [← hGs, e] at hp
            simp only [List.flatten_append, List.flatten_cons] at hp
            exact (List.pairwise_append.1 (List.pairwise_append.1 hp).2.1).1
          obtain ⟨A', B', e'⟩ := List.append_of_mem hc
          have hGf := Sq.parts_flat (cutB S) G
          rw [← hGf, e'] at h2
          simp only [List.flatten_append, List.flatten_cons] at h2
          exact (List.pairwise_append.1 (List.pairwise_append.1 h2).2.1).1
        obtain ⟨hi, ei⟩ := List.getElem?_eq_some_iff.1 hx
        obtain ⟨hj, ej⟩ := List.getElem?_eq_some_iff.1 hy
        have := (List.pairwise_iff_getElem.1 hpc) j (j + 1) hi hj (by omega)
        rw [ei, ej] at this
        exact less_time this (by rw [hk x hxG, hk y hyG])
      have h3 : apartB S y.2.1 x.2.1 = false := by
        unfold cutB at h1
        simpa using h1
      have h4 : ¬ (y.2.1 ≤ t ∧ t < x.2.1) := fun hh => by
        unfold apartB at h3
        rw [Bool.eq_false_iff] at h3
        exact h3 (List.any_eq_true.2 ⟨t, ht, by simp [hh.1, hh.2]⟩)
      unfold seenB
      rw [hk x hxG, hk y hyG]
      have : decide (x.2.1 ≤ t) = decide (y.2.1 ≤ t) := by
        rw [decide_eq_decide]
        omega
      rw [this]
    · refine ⟨decide (k = key), fun e he => ?_⟩
      obtain ⟨j, hj⟩ := List.getElem?_of_mem (hcL e he)
      have := (entB_seq (right_ent hr hj)).2
      unfold seenB
      rw [hk e ((part_len _ _ c hc).2 e he), decide_eq_true (show e.2.1 ≤ t by omega)]
      simp
theorem squash_tells {L : List EntD} (hr : rightB L = true) (S : List Int) (bottom : Bool) (key : ByteArray) (t : Int) (ht : t ∈ S ∨ 100000 ≤ t) : ev (findL (squashL L S bottom) key t) noC = ev (findL L key t) noC := squash_tells_on hr S bottom key t ht noC (fun _ => rfl)
end Go.Proofs.YtlmgojlffgkciaaGreat
