/-
  What is left of entries tells the same as they do, at each time that is kept. Plain.
  What a law draws to be squashed: entries, times and a bool; by walks of its Go text.
  The entries, the key and the time that the laws of cells draw, by a walk of its Go text.
  When two entries are one, as the model's comparison of structs tells it; lists that agree so far. No function of the program is walked here.
  That two lists of entries are one, by a walk of the laws' Go text.
  The library's stable sort of entries by their times, at any number of them: it leaves them in the order of their times, those of one time as they stood; by a walk of its Go text.
  What the program's CellAll answers at any entries, by a walk of its Go text.
  The walk of the law FnSquashOn: it answers true at all bytes: above older entries, squashed ones tell the same if they are not squashed as the lowest.
-/
import Derived.Test.YthhiahjafhkbbaaSqQ
import Derived.Test.YthhiahjafhkbbaaCellS
import Derived.Test.YthhiahjafhkbbaaListX
import Derived.Test.YthhiahjafhkbbaaSortP
import Derived.Test.YthhiahjafhkbbaaBytes
import Derived.Test.YthhiahjafhkbbaaIntL
import Derived.Deep.LoopGhost
import Derived.Test.YthhiahjafhkbbaaEnts
import Derived.Test.YthhiahjafhkbbaaEntI
import Derived.Deep.QuietTactic
import Derived.BigQuiet
import Derived.Test.YthhiahjafhkbbaaSym3
import Derived.Test.YthhiahjafhkbbaaKindX
import Derived.Test.YthhiahjafhkbbaaOwnO
import Derived.Test.YthhiahjafhkbbaaPutE
import Derived.Test.YthhiahjafhkbbaaBox5
import Derived.Deep.RegionLaw
import Derived.Deep.RegionHeld3
import Derived.Test.YthhiahjafhkbbaaSqX
import Derived.Test.YthhiahjafhkbbaaSqG
import Derived.Laws.AppendOwnNone
namespace Go.Proofs.Ythhiahjafhkbbaa

/-- What entries of one key tell, the newest first, above what is known already. -/
def ev (M : List EntD) (c : CellD) : CellD := M.foldr (fun e c => doC c e) c
def noC : CellD := (false, ⟨#[]⟩, 0)
theorem ev_app (A B : List EntD) (c : CellD) : ev (A ++ B) c = ev A (ev B c) := by simp [ev]
theorem foldC_rev (M : List EntD) : foldC M.reverse = ev M noC := by
  unfold foldC ev noC
  rw [List.foldl_reverse]

/-- Entries in order: pair by pair. -/
theorem right_pair {L : List EntD} (h : rightB L = true) : L.Pairwise (fun a b => lessB a.1 a.2.1 b.1 b.2.1 = true) := by
  rw [List.pairwise_iff_getElem]
  intro i j hi hj hij
  exact right_less h hij (List.getElem?_eq_getElem hi) (List.getElem?_eq_getElem hj)
theorem less_time {a b : EntD} (h : lessB a.1 a.2.1 b.1 b.2.1 = true) (hk : a.1 = b.1) : b.2.1 < a.2.1 := by
  rcases lessB_true h with h1 | h1
  · rw [hk, bless_self] at h1; cases h1
  · exact h1.2
theorem cell_ev {L : List EntD} (h : L.Pairwise (fun a b => lessB a.1 a.2.1 b.1 b.2.1 = true)) (key : ByteArray) (seq : Int) : cellL L key seq = ev (findL L key seq) noC := by
  have hp : (findL L key seq).Pairwise (fun a b => b.2.1 < a.2.1) := by
    unfold findL
    rw [List.pairwise_filter]
    refine h.imp ?_
    intro a b hab ha hb
    simp only [Bool.and_eq_true, decide_eq_true_eq] at ha hb
    exact less_time hab (by rw [ha.1, hb.1])
  have hu : UnT (findL L key seq).reverse := by
    unfold UnT
    rw [List.pairwise_reverse]
    exact hp.imp (fun h => by omega)
  have h1 : cutC (findL L key seq) = (findL L key seq).reverse := by
    have hu2 : UnT (findL L key seq) := hp.imp (fun h => by omega)
    refine strict_same ((cutC_perm _).trans (List.reverse_perm _).symm) (cutC_strict hu2) ?_
    rw [List.pairwise_reverse]
    exact hp.imp (fun h => h)
  unfold cellL
  rw [h1, foldC_rev]

/-! One class. -/
open Go.RowKit in
def AddS (s : Int) (X : CellD) : CellD := (true, X.2.1, wrap64 (X.2.2 + s))
theorem doC_1 (X : CellD) {e : EntD} (h : e.2.2.1 = 1) : doC X e = (true, e.2.2.2.1, e.2.2.2.2) := by simp [doC, cellN, h]
theorem doC_2 (X : CellD) {e : EntD} (h : e.2.2.1 = 2) : doC X e = (false, ⟨#[]⟩, 0) := by simp [doC, cellN, h]
theorem doC_3 (X : CellD) {e : EntD} (h : e.2.2.1 = 3) : doC X e = AddS e.2.2.2.2 X := by simp [doC, cellN, h, AddS]
open Go.RowKit in
theorem wrap_wrap (x a b : Int) : wrap64 (wrap64 (x + a) + b) = wrap64 (x + (b + a)) := by unfold wrap64; omega
open Go.RowKit in
theorem wrap_ok {n : Int} (h : sumOkB n = true) : wrap64 n = n := by
  simp only [sumOkB, Bool.and_eq_true, decide_eq_true_eq] at h
  unfold wrap64
  omega
theorem add_add (a b : Int) (X : CellD) : AddS a (AddS b X) = AddS (a + b) X := by
  unfold AddS
  simp only [wrap_wrap]
/-- A kind, and nothing in what takes away. -/
def KdE (e : EntD) : Prop := (e.2.2.1 = 1 ∨ e.2.2.1 = 2 ∨ e.2.2.1 = 3) ∧ (e.2.2.1 = 2 → e.2.2.2.2 = 0)
open Go.RowKit in
theorem join_more : ∀ (L : List EntD) (acc : Int) (X : CellD), (∀ e ∈ L, KdE e) →
    AddS acc (ev L X) = (if (joinG false acc L).1 = 3 then AddS (joinG false acc L).2.2 X else (true, (joinG false acc L).2.1, wrap64 (joinG false acc L).2.2)) ∧ ((joinG false acc L).1 = 1 ∨ ((joinG false acc L).1 = 3 ∧ (joinG false acc L).2.1 = ⟨#[]⟩))
  | [], acc, X, _ => by simp [joinG, ev]
  | e :: R, acc, X, h => by
    obtain ⟨hk, h0⟩ := h e List.mem_cons_self
    have e1 : ev (e :: R) X = doC (ev R X) e := rfl
    rw [e1]
    rcases hk with hk | hk | hk
    · have hj : joinG false acc (e :: R) = (1, e.2.2.2.1, acc + e.2.2.2.2) := by simp [joinG, hk]
      rw [hj, doC_1 _ hk]
      simp only [AddS]
      rw [if_neg (by omega), Int.add_comm]
      exact ⟨rfl, .inl trivial⟩
    · have hj : joinG false acc (e :: R) = (1, ⟨#[]⟩, acc + e.2.2.2.2) := by simp [joinG, hk]
      rw [hj, doC_2 _ hk, h0 hk]
      simp only [AddS]
      rw [if_neg (by omega), Int.add_comm]
      exact ⟨rfl, .inl trivial⟩
    · have hj : joinG false acc (e :: R) = joinG false (acc + e.2.2.2.2) R := by
        conv => lhs; unfold joinG
        rw [if_neg (by omega), if_neg (by omega)]
      rw [hj, doC_3 _ hk, add_add]
      exact join_more R (acc + e.2.2.2.2) X (fun x hx => h x (List.mem_cons_of_mem _ hx))
theorem class_same (b : Bool) (c : List EntD) (X : CellD) (h : ∀ e ∈ c, KdE e) (hb : b = true → X = noC) (hN : ∀ e ∈ c, sumOkB e.2.2.2.2 = true) : ev (clS b c) X = ev c X := by
  match c, h, hN with
  | [], _, _ => rfl
  | e :: R, h, hN =>
    obtain ⟨hk, h0⟩ := h e List.mem_cons_self
    have e1 : ev (e :: R) X = doC (ev R X) e := rfl
    show ev (classG b e.1 e.2.1 (e :: R)) X = _
    unfold classG
    by_cases hs : sumOkB (joinG true 0 (e :: R)).2.2 = true
    · rw [if_pos hs]
      rcases hk with hk | hk | hk
      · have hj : joinG true 0 (e :: R) = (1, e.2.2.2.1, 0 + e.2.2.2.2) := by simp [joinG, hk]
        rw [hj, if_neg (by simp), e1, doC_1 _ hk]
        show doC X (e.1, e.2.1, (if b = true ∧ (1 : Int) = 3 then 1 else 1), e.2.2.2.1, 0 + e.2.2.2.2) = _
        rw [if_neg (by omega), doC_1 _ rfl]
        simp
      · have hj : joinG true 0 (e :: R) = (2, ⟨#[]⟩, 0 + e.2.2.2.2) := by simp [joinG, hk]
        rw [hj, e1, doC_2 _ hk]
        cases b with
        | true =>
          rw [if_pos ⟨rfl, rfl⟩, hb rfl]
          rfl
        | false =>
          rw [if_neg (by simp)]
          show doC X (e.1, e.2.1, (if false = true ∧ (2 : Int) = 3 then 1 else 2), (⟨#[]⟩ : ByteArray), 0 + e.2.2.2.2) = _
          rw [if_neg (by simp), doC_2 _ rfl]
      · have hj : joinG true 0 (e :: R) = joinG false (0 + e.2.2.2.2) R := by
          conv => lhs; unfold joinG
          rw [if_neg (by omega), if_neg (by omega)]
        have hm := join_more R (0 + e.2.2.2.2) X (fun x hx => h x (List.mem_cons_of_mem _ hx))
        rw [hj] at hs ⊢
        obtain ⟨d, t, s, hdts⟩ : ∃ d t s, joinG false (0 + e.2.2.2.2) R = (d, t, s) := ⟨_, _, _, rfl⟩
        rw [hdts] at hs hm ⊢
        simp only at hs hm ⊢
        have e2 : ev (e :: R) X = AddS (0 + e.2.2.2.2) (ev R X) := by rw [e1, doC_3 _ hk]; simp
        rw [e2, hm.1]
        rcases hm.2 with rfl | ⟨rfl, rfl⟩
        · rw [if_neg (by simp), if_neg (by omega), if_neg (by omega)]
          show doC X (e.1, e.2.1, 1, t, s) = _
          rw [doC_1 _ rfl, wrap_ok hs]
        · rw [if_neg (by simp), if_pos rfl]
          cases b with
          | true =>
            show doC X (e.1, e.2.1, (if true = true ∧ (3 : Int) = 3 then 1 else 3), (⟨#[]⟩ : ByteArray), s) = _
            rw [if_pos ⟨rfl, rfl⟩, doC_1 _ rfl, hb rfl]
            unfold AddS noC
            simp only [Int.zero_add]
            rw [wrap_ok hs]
          | false =>
            show doC X (e.1, e.2.1, (if false = true ∧ (3 : Int) = 3 then 1 else 3), (⟨#[]⟩ : ByteArray), s) = _
            rw [if_neg (by simp), doC_3 _ rfl]
    · rw [if_neg hs]
theorem clS_mem (b : Bool) : ∀ (c : List EntD) (x : EntD), x ∈ clS b c → ∃ y ∈ c, x.1 = y.1 ∧ x.2.1 = y.2.1
  | [], x, h => by cases h
  | e :: R, x, h => by
    have h' : x ∈ classG b e.1 e.2.1 (e :: R) := h
    unfold classG at h'
    by_cases h1 : sumOkB (joinG true 0 (e :: R)).2.2 = true
    · rw [if_pos h1] at h'
      by_cases h2 : b = true ∧ (joinG true 0 (e :: R)).1 = 2
      · rw [if_pos h2] at h'; cases h'
      · rw [if_neg h2] at h'
        have := List.mem_singleton.1 h'
        rw [this]
        exact ⟨e, List.mem_cons_self, rfl, rfl⟩
    · rw [if_neg h1] at h'
      exact ⟨x, h', rfl, rfl⟩

/-! The classes of a key. -/
def seenB (key : ByteArray) (t : Int) (e : EntD) : Bool := decide (e.1 = key) && decide (e.2.1 ≤ t)
theorem find_seen (L : List EntD) (key : ByteArray) (t : Int) : findL L key t = L.filter (seenB key t) := rfl
theorem seen_congr {key : ByteArray} {t : Int} {x y : EntD} (h1 : x.1 = y.1) (h2 : x.2.1 = y.2.1) : seenB key t x = seenB key t y := by unfold seenB; rw [h1, h2]
theorem cl_filter (b : Bool) {c : List EntD} {key : ByteArray} {t : Int} {v : Bool} (h : ∀ e ∈ c, seenB key t e = v) : (clS b c).filter (seenB key t) = if v = true then clS b c else [] := by
  have h' : ∀ e ∈ clS b c, seenB key t e = v := fun e he => by
    obtain ⟨y, hy, h1, h2⟩ := clS_mem b c e he
    rw [seen_congr h1 h2]
    exact h y hy
  cases v with
  | true => rw [if_pos rfl]; exact List.filter_eq_self.2 h'
  | false => rw [if_neg (by simp)]; exact List.filter_eq_nil_iff.2 (fun e he => by rw [h' e he]; simp)
theorem all_filter {c : List EntD} {key : ByteArray} {t : Int} {v : Bool} (h : ∀ e ∈ c, seenB key t e = v) : c.filter (seenB key t) = if v = true then c else [] := by
  cases v with
  | true => rw [if_pos rfl]; exact List.filter_eq_self.2 h
  | false => rw [if_neg (by simp)]; exact List.filter_eq_nil_iff.2 (fun e he => by rw [h e he]; simp)
theorem left_same (bottom : Bool) (key : ByteArray) (t : Int) (X : CellD) (hX : bottom = true → X = noC) : ∀ Cs : List (List EntD), (∀ c ∈ Cs, (∀ e ∈ c, KdE e ∧ sumOkB e.2.2.2.2 = true) ∧ ∃ v, ∀ e ∈ c, seenB key t e = v) →
    ev ((Cs.foldr (Sq.stepD clS) (bottom, [])).2.filter (seenB key t)) X = ev (Cs.flatten.filter (seenB key t)) X ∧ ((Cs.foldr (Sq.stepD clS) (bottom, [])).1 = true → (Cs.foldr (Sq.stepD clS) (bottom, [])).2 = [] ∧ bottom = true)
  | [], _ => by simp
  | c :: Cs, h => by
    obtain ⟨i1, i2⟩ := left_same bottom key t X hX Cs (fun x hx => h x (List.mem_cons_of_mem _ hx))
    obtain ⟨hc, v, hv⟩ := h c List.mem_cons_self
    rw [List.foldr_cons, List.flatten_cons]
    obtain ⟨bb, R, hst⟩ : ∃ bb R, Cs.foldr (Sq.stepD clS) (bottom, []) = (bb, R) := ⟨_, _, rfl⟩
    rw [hst] at i1 i2 ⊢
    simp only at i1 i2
    unfold Sq.stepD
    simp only
    refine ⟨?_, ?_⟩
    · rw [List.filter_append, List.filter_append, ev_app, ev_app, cl_filter bb hv, all_filter hv, ← i1]
      cases v with
      | true =>
        rw [if_pos rfl, if_pos rfl]
        exact class_same bb c _ (fun e he => (hc e he).1) (fun hb => by rw [(i2 hb).1, hX (i2 hb).2]; rfl) (fun e he => (hc e he).2)
      | false => rfl
    · intro hb
      by_cases he : (clS bb c).isEmpty = true
      · rw [if_pos he] at hb
        rw [List.isEmpty_iff.1 he, (i2 hb).1]
        exact ⟨rfl, (i2 hb).2⟩
      · rw [if_neg he] at hb; cases hb
theorem part_chain (r : EntD → EntD → Bool) : ∀ (L : List EntD) (c : List EntD), c ∈ Sq.parts r L → ∀ (j : Nat) x y, c[j]? = some x → c[j + 1]? = some y → r x y = true
  | [], c, h => by simp [Sq.parts] at h
  | z :: L, c, h => by
    have ih := part_chain r L
    rw [Sq.parts_cons] at h
    unfold Sq.putP at h
    split at h
    · rename_i w c' cs hp
      rw [hp] at ih
      by_cases hr : r z w = true
      · rw [if_pos hr] at h
        rcases List.mem_cons.1 h with rfl | h
        · intro j x y hx hy
          match j, hx, hy with
          | 0, hx, hy =>
            simp at hx hy
            subst hx
            subst hy
            exact hr
          | j + 1, hx, hy => exact ih _ List.mem_cons_self j x y (by simpa using hx) (by simpa using hy)
        · exact ih c (List.mem_cons_of_mem _ h)
      · rw [if_neg hr] at h
        rcases List.mem_cons.1 h with rfl | h
        · intro j x y hx hy
          simp at hy
        · exact ih c h
    · rcases List.mem_cons.1 h with rfl | h
      · intro j x y hx hy
        simp at hy
      · exact ih c h
theorem chain_all {f : EntD → Bool} {c : List EntD} (h : ∀ (j : Nat) x y, c[j]? = some x → c[j + 1]? = some y → f x = f y) : ∃ v, ∀ e ∈ c, f e = v := by
  match c, h with
  | [], _ => exact ⟨true, fun e he => by cases he⟩
  | e0 :: R, h =>
    refine ⟨f e0, fun e he => ?_⟩
    obtain ⟨i, hi⟩ := List.getElem?_of_mem he
    have key : ∀ (i : Nat) (e : EntD), (e0 :: R)[i]? = some e → f e = f e0 := by
      intro i
      induction i with
      | zero => intro e he; simp at he; rw [he]
      | succ i ih =>
        intro e he
        have hl : i + 1 < (e0 :: R).length := (List.getElem?_eq_some_iff.1 he).1
        have hx := List.getElem?_eq_getElem (l := e0 :: R) (i := i) (by omega)
        rw [← h i _ e hx he]
        exact ih _ hx
    exact key i e hi

/-! All keys. -/
theorem group_key {L : List EntD} {G : List EntD} (h : G ∈ Sq.parts keyEq L) : ∃ k, ∀ e ∈ G, e.1 = k := by
  match G, part_ne _ _ G h, part_chain keyEq L G h with
  | e0 :: R, _, hc =>
    refine ⟨e0.1, fun e he => ?_⟩
    obtain ⟨i, hi⟩ := List.getElem?_of_mem he
    have key : ∀ (i : Nat) (e : EntD), (e0 :: R)[i]? = some e → e.1 = e0.1 := by
      intro i
      induction i with
      | zero => intro e he; simp at he; rw [he]
      | succ i ih =>
        intro e he
        have hl : i + 1 < (e0 :: R).length := (List.getElem?_eq_some_iff.1 he).1
        have hx := List.getElem?_eq_getElem (l := e0 :: R) (i := i) (by omega)
        have := hc i _ e hx he
        unfold keyEq at this
        rw [← of_decide_eq_true this]
        exact ih _ hx
    exact key i e hi
/-- Parts of unlike keys. -/
theorem group_apart : ∀ L : List EntD, L.Pairwise (fun a b => lessB a.1 a.2.1 b.1 b.2.1 = true) → (Sq.parts keyEq L).Pairwise (fun G H => ∀ x ∈ G, ∀ y ∈ H, x.1 ≠ y.1)
  | [], _ => List.Pairwise.nil
  | z :: L, h => by
    obtain ⟨hz, hL⟩ := List.pairwise_cons.1 h
    have ih := group_apart L hL
    have hf := Sq.parts_flat keyEq L
    rw [Sq.parts_cons]
    unfold Sq.putP
    split
    · rename_i w c cs hp
      rw [hp] at ih hf
      obtain ⟨i1, i2⟩ := List.pairwise_cons.1 ih
      have hwL : w ∈ L := by rw [← hf]; simp
      by_cases hr : keyEq z w = true
      · rw [if_pos hr]
        refine List.pairwise_cons.2 ⟨fun H hH x hx y hy => ?_, i2⟩
        rcases List.mem_cons.1 hx with rfl | hx
        · have e := of_decide_eq_true (show decide (x.1 = w.1) = true from hr)
          rw [e]
          exact i1 H hH w List.mem_cons_self y hy
        · exact i1 H hH x hx y hy
      · rw [if_neg hr]
        refine List.pairwise_cons.2 ⟨fun H hH x hx y hy => ?_, ih⟩
        rw [List.mem_singleton] at hx
        subst hx
        have hne : x.1 ≠ w.1 := fun e => hr (decide_eq_true e)
        have hyL : y ∈ L := by rw [← hf]; exact List.mem_flatten.2 ⟨H, hH, hy⟩
        have h1 : Op.bytesLess x.1.data.toList w.1.data.toList = true := by
          rcases lessB_true (hz w hwL) with h | h
          · exact h
          · exact absurd h.1 hne
        intro e
        rcases List.mem_cons.1 hH with rfl | hH'
        · rcases List.mem_cons.1 hy with rfl | hy'
          · exact hne e
          · have hw' : ∃ k, ∀ e ∈ (w :: c), e.1 = k := group_key (L := L) (by rw [hp]; exact List.mem_cons_self)
            obtain ⟨k, hk⟩ := hw'
            exact hne (by rw [e, hk y (List.mem_cons_of_mem _ hy'), hk w List.mem_cons_self])
        · have hwy : lessB w.1 w.2.1 y.1 y.2.1 = true := by
            rw [← hf, List.flatten_cons] at hL
            have := (List.pairwise_append.1 hL).2.2
            exact this w List.mem_cons_self y (List.mem_flatten.2 ⟨H, hH', hy⟩)
          have h2 : Op.bytesLess x.1.data.toList y.1.data.toList = true := by
            rcases lessB_true hwy with h | h
            · exact bless_trans _ _ _ h1 h
            · rw [← h.1]; exact h1
          rw [e, bless_self] at h2
          cases h2
    · rename_i hno
      refine List.pairwise_cons.2 ⟨fun H hH x hx y hy => ?_, ih⟩
      cases L with
      | nil => simp [Sq.parts] at hH
      | cons w R =>
        obtain ⟨c, cs, hp⟩ := Sq.parts_head keyEq w R
        exact absurd hp (hno _ _ _)
theorem left_mem (S : List Int) (bottom : Bool) (G : List EntD) : ∀ x ∈ leftS S bottom G, ∃ y ∈ G, x.1 = y.1 ∧ x.2.1 = y.2.1 := by
  have key : ∀ Cs : List (List EntD), ∀ x ∈ (Cs.foldr (Sq.stepD clS) (bottom, [])).2, ∃ y ∈ Cs.flatten, x.1 = y.1 ∧ x.2.1 = y.2.1 := by
    intro Cs
    induction Cs with
    | nil => intro x hx; cases hx
    | cons c Cs ih =>
      intro x hx
      rw [List.foldr_cons] at hx
      generalize Cs.foldr (Sq.stepD clS) (bottom, []) = st at ih hx
      have hx' : x ∈ clS st.1 c ++ st.2 := hx
      rcases List.mem_append.1 hx' with h | h
      · obtain ⟨y, hy, h'⟩ := clS_mem _ _ x h
        exact ⟨y, by rw [List.flatten_cons]; exact List.mem_append_left _ hy, h'⟩
      · obtain ⟨y, hy, h'⟩ := ih x h
        exact ⟨y, by rw [List.flatten_cons]; exact List.mem_append_right _ hy, h'⟩
  intro x hx
  have := key _ x hx
  rwa [Sq.parts_flat] at this
theorem other_key {G : List EntD} {key k : ByteArray} {t : Int} (h : ∀ e ∈ G, e.1 = k) (hne : k ≠ key) : G.filter (seenB key t) = [] :=
  List.filter_eq_nil_iff.2 (fun e he => by
    unfold seenB
    rw [h e he]
    simp [hne])
theorem groups_same (S : List Int) (bottom : Bool) (key : ByteArray) (t : Int) (X : CellD) (hX : bottom = true → X = noC) : ∀ Gs : List (List EntD), Gs.Pairwise (fun G H => ∀ x ∈ G, ∀ y ∈ H, x.1 ≠ y.1) → (∀ G ∈ Gs, G ≠ [] ∧ (∃ k, ∀ e ∈ G, e.1 = k) ∧ (∀ e ∈ G, KdE e ∧ sumOkB e.2.2.2.2 = true) ∧ ∀ c ∈ Sq.parts (cutB S) G, ∃ v, ∀ e ∈ c, seenB key t e = v) →
    ev ((Gs.flatMap (leftS S bottom)).filter (seenB key t)) X = ev (Gs.flatten.filter (seenB key t)) X
  | [], _, _ => rfl
  | G :: Gs, hp, h => by
    obtain ⟨p1, p2⟩ := List.pairwise_cons.1 hp
    have ih := groups_same S bottom key t X hX Gs p2 (fun x hx => h x (List.mem_cons_of_mem _ hx))
    obtain ⟨hne, ⟨k, hk⟩, hG, hC⟩ := h G List.mem_cons_self
    rw [List.flatMap_cons, List.flatten_cons, List.filter_append, List.filter_append, ev_app, ev_app]
    have hlk : ∀ e ∈ leftS S bottom G, e.1 = k := fun e he => by
      obtain ⟨y, hy, h1, _⟩ := left_mem S bottom G e he
      rw [h1]; exact hk y hy
    by_cases e : k = key
    · subst e
      obtain ⟨g0, hg0⟩ := List.exists_mem_of_ne_nil G hne
      have r1 : Gs.flatten.filter (seenB k t) = [] := List.filter_eq_nil_iff.2 (fun x hx => by
        obtain ⟨H, hH, hxH⟩ := List.mem_flatten.1 hx
        have := p1 H hH g0 hg0 x hxH
        rw [hk g0 hg0] at this
        unfold seenB
        simp [Ne.symm this])
      have r2 : (Gs.flatMap (leftS S bottom)).filter (seenB k t) = [] := List.filter_eq_nil_iff.2 (fun x hx => by
        obtain ⟨H, hH, hxH⟩ := List.mem_flatMap.1 hx
        obtain ⟨y, hy, h1, _⟩ := left_mem S bottom H x hxH
        have := p1 H hH g0 hg0 y hy
        rw [hk g0 hg0] at this
        unfold seenB
        rw [h1]
        simp [Ne.symm this])
      rw [r1, r2]
      have := (left_same bottom k t X hX (Sq.parts (cutB S) G) (fun c hc => ⟨fun e he => hG e ((part_len _ _ c hc).2 e he), hC c hc⟩)).1
      rw [Sq.parts_flat] at this
      exact this
    · rw [other_key hlk e, other_key hk e]
      exact ih
/-- What is left tells the same, at a time that is kept and at the last. -/
theorem squash_tells_on {L : List EntD} (hr : rightB L = true) (S : List Int) (bottom : Bool) (key : ByteArray) (t : Int) (ht : t ∈ S ∨ 100000 ≤ t) (X : CellD) (hX : bottom = true → X = noC) : ev (findL (squashL L S bottom) key t) X = ev (findL L key t) X := by
  have hp := right_pair hr
  unfold squashL
  rw [if_pos hr, find_seen, find_seen]
  have := groups_same S bottom key t X hX (Sq.parts keyEq L) (group_apart L hp) (fun G hG => ⟨part_ne _ _ G hG, group_key hG, fun e he => ?_, fun c hc => ?_⟩)
  · rw [Sq.parts_flat] at this
    exact this
  · obtain ⟨j, hj⟩ := List.getElem?_of_mem ((part_len _ _ G hG).2 e he)
    have hb := right_ent hr hj
    unfold entB at hb
    simp only [Bool.and_eq_true, decide_eq_true_eq] at hb
    obtain ⟨_, _, _, h3, h4, _, h6⟩ := hb
    refine ⟨⟨?_, ?_⟩, by simp [sumOkB, h3, h4]⟩
    · by_cases d1 : e.2.2.1 = 1
      · exact .inl d1
      · by_cases d2 : e.2.2.1 = 2
        · exact .inr (.inl d2)
        · by_cases d3 : e.2.2.1 = 3
          · exact .inr (.inr d3)
          · rw [kindB_0 d1 d2 d3] at h6; cases h6
    · intro d2
      rw [d2, kindB_2] at h6
      simp only [Bool.and_eq_true, decide_eq_true_eq] at h6
      exact h6.2
  · have hcL : ∀ e ∈ c, e ∈ L := fun e he => (part_len _ _ G hG).2 e ((part_len _ _ c hc).2 e he)
    obtain ⟨k, hk⟩ := group_key hG
    rcases ht with ht | ht
    · refine chain_all (fun j x y hx hy => ?_)
      have h1 := part_chain (cutB S) G c hc j x y hx hy
      have hxG := (part_len _ _ c hc).2 x (List.mem_of_getElem? hx)
      have hyG := (part_len _ _ c hc).2 y (List.mem_of_getElem? hy)
      have hxy : y.2.1 < x.2.1 := by
        have hGs : (Sq.parts keyEq L).flatten = L := Sq.parts_flat _ _
        have hpc : c.Pairwise (fun a b => lessB a.1 a.2.1 b.1 b.2.1 = true) := by
          obtain ⟨A, B, e⟩ := List.append_of_mem hG
          have h2 : G.Pairwise (fun a b => lessB a.1 a.2.1 b.1 b.2.1 = true) := by
            rw [← hGs, e] at hp
            simp only [List.flatten_append, List.flatten_cons] at hp
            exact (List.pairwise_append.1 (List.pairwise_append.1 hp).2.1).1
          obtain ⟨A', B', e'⟩ := List.append_of_mem hc
          have hGf := Sq.parts_flat (cutB S) G
          rw [← hGf, e'] at h2
          simp only [List.flatten_append, List.flatten_cons] at h2
          exact (List.pairwise_append.1 (List.pairwise_append.1 h2).2.1).1
        obtain ⟨hi, ei⟩ := List.getElem?_eq_some_iff.1 hx
        obtain ⟨hj, ej⟩ := List.getElem?_eq_some_iff.1 hy
        have := (List.pairwise_iff_getElem.1 hpc) j (j + 1) hi hj (by omega)
        rw [ei, ej] at this
        exact less_time this (by rw [hk x hxG, hk y hyG])
      have h3 : apartB S y.2.1 x.2.1 = false := by
        unfold cutB at h1
        simpa using h1
      have h4 : ¬ (y.2.1 ≤ t ∧ t < x.2.1) := fun hh => by
        unfold apartB at h3
        rw [Bool.eq_false_iff] at h3
        exact h3 (List.any_eq_true.2 ⟨t, ht, by simp [hh.1, hh.2]⟩)
      unfold seenB
      rw [hk x hxG, hk y hyG]
      have : decide (x.2.1 ≤ t) = decide (y.2.1 ≤ t) := by
        rw [decide_eq_decide]
        omega
      rw [this]
    · refine ⟨decide (k = key), fun e he => ?_⟩
      obtain ⟨j, hj⟩ := List.getElem?_of_mem (hcL e he)
      have := (entB_seq (right_ent hr hj)).2
      unfold seenB
      rw [hk e ((part_len _ _ c hc).2 e he), decide_eq_true (show e.2.1 ≤ t by omega)]
      simp
theorem squash_tells {L : List EntD} (hr : rightB L = true) (S : List Int) (bottom : Bool) (key : ByteArray) (t : Int) (ht : t ∈ S ∨ 100000 ≤ t) : ev (findL (squashL L S bottom) key t) noC = ev (findL L key t) noC := squash_tells_on hr S bottom key t ht noC (fun _ => rfl)
end Go.Proofs.Ythhiahjafhkbbaa

namespace Go.Proofs.Ythhiahjafhkbbaa
open Go.RowKit

/-- Entries that may be drawn to be squashed. -/
def DrOk (L : List EntD) : Prop := L.length ≤ 15 ∧ (∀ e ∈ L, entB e.1 e.2.1 e.2.2.1 e.2.2.2.1 e.2.2.2.2 = true) ∧
  (rightB L = true → (∀ e ∈ L.tail, -100 ≤ e.2.2.2.2 ∧ e.2.2.2.2 ≤ 100) ∧ ∀ e, L[0]? = some e → (-100 ≤ e.2.2.2.2 ∧ e.2.2.2.2 ≤ 100) ∨ e.2.2.2.2 = 1000000 ∨ e.2.2.2.2 = -1000000) ∧ ∀ e ∈ L, e.2.1 ≤ 1000
theorem entX_ok {k t : ByteArray} {q d n : Int} (h : EntX k t q d n) (h1 : 1 ≤ q) (h2 : q ≤ 100000) : entB k q d t n = true := by
  obtain ⟨_, _, hd, hn, _, ht, hk, hs, hl, hu⟩ := h
  rw [entB_rest hk h1 h2 (by omega) (by omega) hs]
  rcases hd with rfl | rfl | rfl
  · exact kindB_1
  · rw [kindB_2, ht (by omega), hn rfl]; rfl
  · rw [kindB_3, ht (by omega)]; rfl
theorem ent_N {k t : ByteArray} {q d n n' : Int} (h : entB k q d t n = true) (hd : d ≠ 2) (h1 : -1000000 ≤ n') (h2 : n' ≤ 1000000) : entB k q d t n' = true := by
  unfold entB at h ⊢
  simp only [Bool.and_eq_true, decide_eq_true_eq] at h ⊢
  obtain ⟨a, b, c, _, _, f, g⟩ := h
  refine ⟨a, b, c, h1, h2, f, ?_⟩
  by_cases d1 : d = 1
  · subst d1; exact kindB_1
  · by_cases d3 : d = 3
    · subst d3; rw [kindB_3] at g ⊢; exact g
    · rw [kindB_0 d1 hd d3] at g; cases g
theorem drOk_sort {L : List EntD} {B : Nat} (h : AllX L B) (hB : B ≤ 1000) (hl : L.length ≤ 14) : DrOk (sortE L) ∧ ∀ e ∈ sortE L, -100 ≤ e.2.2.2.2 ∧ e.2.2.2.2 ≤ 100 := by
  have hm : ∀ e, e ∈ sortE L ↔ e ∈ L := fun e => (sort_both L).2.mem_iff
  have hn : ∀ e ∈ sortE L, -100 ≤ e.2.2.2.2 ∧ e.2.2.2.2 ≤ 100 := fun e he => by
    obtain ⟨⟨_, _, _, _, _, _, _, _, h3⟩, _⟩ := h.1 e ((hm e).1 he)
    exact h3
  refine ⟨⟨by rw [(sort_both L).2.length_eq]; omega, fun e he => ?_, fun _ => ⟨fun e he => hn e (List.mem_of_mem_tail he), fun e he => .inl (hn e (List.mem_of_getElem? he))⟩, fun e he => by have := (h.1 e ((hm e).1 he)).2.2; omega⟩, hn⟩
  obtain ⟨h1, h2, h3⟩ := h.1 e ((hm e).1 he)
  exact entX_ok h1 h2 (by omega)
theorem drOk_first {s t : ByteArray} {q d n n' : Int} {L : List EntD} (h : DrOk ((s, q, d, t, n) :: L)) (hn : ∀ e ∈ L, -100 ≤ e.2.2.2.2 ∧ e.2.2.2.2 ≤ 100) (hd : d ≠ 2) (h' : n' = 1000000 ∨ n' = -1000000) : DrOk ((s, q, d, t, n') :: L) := by
  obtain ⟨h1, h2, h3, h4⟩ := h
  refine ⟨by simpa using h1, fun e he => ?_, fun _ => ⟨fun e he => hn e (by simpa using he), fun e he => ?_⟩, fun e he => ?_⟩
  · rcases List.mem_cons.1 he with rfl | he
    · have hb : -1000000 ≤ n' ∧ n' ≤ 1000000 := by rcases h' with rfl | rfl <;> omega
      exact ent_N (k := s) (t := t) (q := q) (d := d) (n := n) (n' := n') (h2 (s, q, d, t, n) List.mem_cons_self) hd hb.1 hb.2
    · exact h2 e (List.mem_cons_of_mem _ he)
  · simp at he
    subst he
    exact .inr h'
  · rcases List.mem_cons.1 he with rfl | he
    · exact h4 (s, q, d, t, n) List.mem_cons_self
    · exact h4 e (List.mem_cons_of_mem _ he)
theorem drOk_twice {e : EntD} {L : List EntD} (h : DrOk (e :: L)) (hl : (e :: L).length ≤ 14) : DrOk ((e :: L) ++ [e]) := by
  obtain ⟨h1, h2, h3, h4⟩ := h
  refine ⟨by simp at hl ⊢; omega, fun x hx => ?_, fun hr => ?_, fun x hx => ?_⟩
  · rcases List.mem_append.1 hx with h | h
    · exact h2 x h
    · rw [List.mem_singleton] at h; subst h; exact h2 x List.mem_cons_self
  · exfalso
    have := right_less hr (i := 0) (j := (e :: L).length) (by simp) (d := e) (e := e) (by simp) (by rw [List.getElem?_append_right (Nat.le_refl _)]; simp)
    rw [lessB_self] at this
    cases this
  · rcases List.mem_append.1 hx with h | h
    · exact h4 x h
    · rw [List.mem_singleton] at h; subst h; exact h4 x List.mem_cons_self

theorem own_setN {w : World} {base g n c : Nat} {s t : ByteArray} {q d m : Int} {L : List EntD} (h : OwnE w base g n c ((s, q, d, t, m) :: L)) (x : Int) (hx : (Lit.int .i64 x).wf = true) :
    OwnE (w.setCell ⟨g, 4, none⟩ (.int .i64 x)) base g n c ((s, q, d, t, x) :: L) ∧ w.grownBy (w.setCell ⟨g, 4, none⟩ (.int .i64 x)) (some g) := by
  have h1 := h.owns.stored 4 (.int .i64 x)
  have e : (flatE ((s, q, d, t, m) :: L)).set 4 (.int .i64 x) = flatE ((s, q, d, t, x) :: L) := by simp [flatE, entCells]
  rw [e] at h1
  refine ⟨⟨h1.1, by simpa using h.len, fun l hl => ?_⟩, h1.2⟩
  rcases List.mem_cons.1 hl with rfl | hl
  · have hw := h.ents _ List.mem_cons_self
    exact ⟨hw.1, hw.2.1, hw.2.2.1, hw.2.2.2.1, hx⟩
  · exact h.ents l (List.mem_cons_of_mem _ hl)

/-- The reader and a row of entries. -/
structure SdSt (w wi : World) (R : Nat) (a : Option Addr) (len cap P g n c : Nat) (L : List EntD) : Prop where
  all : Below w.heap.size w wi
  rd : RdAt wi R a len cap P
  own : OwnE wi w.heap.size g n c L
  hr : w.heap.size ≤ R
  gr : R < g
  low : Low a len R
theorem SdSt.read {w wi wj : World} {R : Nat} {a : Option Addr} {len cap P P' g n c : Nat} {L : List EntD} (h : SdSt w wi R a len cap P g n c L) (hg : wi.grownBy wj (some R)) (hr : RdAt wj R a len cap P') : SdSt w wj R a len cap P' g n c L :=
  ⟨h.all.grown hg h.all.size (fun k e => by cases e; exact h.hr), hr, h.own.gR hg h.gr, h.hr, h.gr, h.low⟩
theorem SdSt.below {w wi wj : World} {R : Nat} {a : Option Addr} {len cap P g n c : Nat} {L : List EntD} (h : SdSt w wi R a len cap P g n c L) (hb : Below wi.heap.size wi wj) : SdSt w wj R a len cap P g n c L := h.read (grown_below hb) (h.rd.below hb)
theorem SdSt.step {w wi wj : World} {R : Nat} {a : Option Addr} {len cap P g n c g' n' c' : Nat} {L L' : List EntD} (h : SdSt w wi R a len cap P g n c L) (hg : wi.grownBy wj (some g)) (ho : OwnE wj w.heap.size g' n' c' L') (hgr : R < g') : SdSt w wj R a len cap P g' n' c' L' :=
  ⟨h.all.grown hg h.all.size (fun k e => by cases e; have := h.hr; have := h.gr; omega), h.rd.grown hg h.low (fun k e => by cases e; exact h.gr), ho, h.hr, hgr, h.low⟩
theorem SdSt.more {w wi wj : World} {R : Nat} {a : Option Addr} {len cap P g n c g' c' : Nat} {L : List EntD} {e : EntD} (h : SdSt w wi R a len cap P g n c L) (hg : wi.grownBy wj (Value.slice (some ⟨g, 0, none⟩) n c).ownBlock) (ho : wj.ownsRow (R + 1) 54 5 (.slice (some ⟨g', 0, none⟩) (n + 1) c') (n + 1) (flatE L ++ flatE [e])) (he : EntW e) : SdSt w wj R a len cap P g' (n + 1) c' (L ++ [e]) := by
  have hg' : wi.grownBy wj (some g) := by simpa [Value.ownBlock] using hg
  have hb := (ho.lt g' rfl).1
  have hO : OwnE wj (R + 1) g' (n + 1) c' (L ++ [e]) := ⟨by rw [flatE_append]; exact ho, by simp [h.own.len], fun x hx => by rcases List.mem_append.1 hx with h1 | h1; exact h.own.ents x h1; rw [List.mem_singleton] at h1; subst h1; exact he⟩
  exact h.step hg' (hO.mono (by have := h.hr; omega)) (by omega)
theorem sd_raise {w : World} {base base' g n c : Nat} {L : List EntD} (h : OwnE w base g n c L) (hb : base' ≤ g) : w.ownsRow base' 54 5 (.slice (some ⟨g, 0, none⟩) n c) n (flatE L) := by
  obtain ⟨h1, h2⟩ := h.owns
  refine ⟨h1, ?_⟩
  rcases h2 with h2 | ⟨g', cap', cur, e, _, h3⟩
  · exact .inl h2
  · simp only [Value.slice.injEq, Option.some.injEq, Addr.mk.injEq, and_true, true_and] at e
    obtain ⟨e1, e2⟩ := e
    subst e1 e2
    exact .inr ⟨g, c, cur, rfl, hb, h3⟩

set_option maxRecDepth 100000 in
set_option maxHeartbeats 2000000 in
theorem l4Ents_x (R P many : Nat) (a : Option Addr) (len cap : Nat) (w : World) (h : RdAt w R a len cap P) (hlow : Low a len R) (hP : P < 80000) (hm : many ≤ 100) :
    Calls Try.prog 60 #[.pointer (some ⟨R, 0, none⟩), .int .i64 many] w fun e w' => ∃ (g n c P' : Nat) (L : List EntD), e = .returned (.slice (some ⟨g, 0, none⟩) n c) ∧ OwnE w' w.heap.size g n c (sortE L) ∧ n ≤ many ∧ AllX L (2 * many) ∧ RdAt w' R a len cap P' ∧ P' ≤ P + 1 + 8 * many ∧ w.grownBy w' (some R) := by
  go_enter Try.func60, Try.ntmps60
  go_wp2_with fail
  refine (l3List_x R P many a len cap w h hlow hP hm).mono ?_
  rintro e w1 ⟨g, n, c, P', L, rfl, hO, hn, hF, hR, hP', hG⟩
  have HR : Hid (RdAt w1 R a len cap P') := hR
  have HG : Hid (w.grownBy w1 (some R)) := hG
  have HF : Hid (AllX L (2 * many)) := hF
  have hz := hG.size
  go_wp2_with fail
  refine (specSort _ n c L w1 hO.entsAt (by omega)).mono ?_
  rintro e w2 ⟨g2, c2, rfl, hO2, hb2⟩
  have HO2 : Hid (OwnE w2 w.heap.size g2 n c2 (sortE L)) := hO2.mono hz
  have HR2 : Hid (RdAt w2 R a len cap P') := HR.out.below hb2
  have HG2 : Hid (w.grownBy w2 (some R)) := grown_trans HG.out (grown_below hb2)
  clear hO hR hG hF hb2 hO2 HR HG
  go_wp2
  go_ret
  exact ⟨g2, n, c2, P', L, rfl, HO2.out, hn, HF.out, HR2.out, hP', HG2.out⟩

theorem ownN_nil (w : World) (base : Nat) (h : base ≤ w.heap.size) : OwnN (w.alloc (.cells #[] 3)) base w.heap.size 0 0 [] :=
  ⟨by have := World.ownsRow_lit (base := base) (e := 3) (size := 1) w #[] 0 h (by simp) (by simp); simpa using this, rfl, fun q hq => by cases hq⟩
theorem cellI_one (w : World) (o : Value) (T : TypeId) : ∀ j u, [o][j]? = some u → (w.alloc (.cells #[o] T)).cell? ((⟨w.heap.size, 0, none⟩ : Addr).add j) = some u := by
  intro j u hj
  match j, hj with
  | 0, hj => simp at hj; subst hj; rw [Go.WideShapes.add_plain]; simp
  | j + 1, hj => simp at hj

theorem wf_pick {q : Int} (h1 : 0 ≤ q) (h2 : q < 20) : (Lit.int .i64 q).wf = true := WalkArith.wf_i64 (by omega)
/-- A number behind numbers. -/
theorem snapsA {w w2 w3 : World} {R : Nat} {a : Option Addr} {len cap P g m c : Nat} {S : List Int} {q : Int} {v3 : Value} {o : Obj} (hO : OwnN w2 w.heap.size g m c S) (hG : w.grownBy w2 (some R)) (hR : RdAt w2 R a len cap P) (hlow : Low a len R) (hgR : R < g) (hq : (Lit.int .i64 q).wf = true)
    (hown : w3.ownsRow w.heap.size 3 1 v3 (m + 1) (S.map (Value.int .i64) ++ [.int .i64 q])) (hgrow : (w2.alloc o).grownBy w3 (Value.slice (some ⟨g, 0, none⟩) m c).ownBlock) :
    ∃ g3 c3, v3 = .slice (some ⟨g3, 0, none⟩) (m + 1) c3 ∧ Hid (OwnN w3 w.heap.size g3 (m + 1) c3 (S ++ [q])) ∧ Hid (w.grownBy w3 (some R)) ∧ Hid (RdAt w3 R a len cap P) := by
  obtain ⟨g3, c3, rfl⟩ : ∃ g cap, v3 = .slice (some ⟨g, 0, none⟩) (m + 1) cap := by
    rcases hown.2 with ⟨hv, h0⟩ | ⟨g, cap, cur, hv, _⟩
    · omega
    · exact ⟨g, cap, hv⟩
  have hal : Below w2.heap.size w2 (w2.alloc o) := (Below.refl _ _).alloc (Nat.le_refl _) _
  have hg' : (w2.alloc o).grownBy w3 (some g) := by simpa [Value.ownBlock] using hgrow
  refine ⟨g3, c3, rfl, ⟨by rw [List.map_append]; exact hown, by rw [List.length_append, hO.len]; rfl, fun x hx => ?_⟩, grown_then (grown_trans hG (grown_below hal)) hg' (fun j e => by cases e; exact hO.lt.1), (hR.below hal).grown hg' hlow (fun k e => by cases e; exact hgR)⟩
  rcases List.mem_append.1 hx with h | h
  · exact hO.wfs x h
  · rw [List.mem_singleton] at h; subst h; exact hq

set_option maxRecDepth 100000 in
set_option maxHeartbeats 4000000 in
theorem l4Snaps_any (R P : Nat) (a : Option Addr) (len cap : Nat) (w : World) (h : RdAt w R a len cap P) (hlow : Low a len R) (hP : P < 80000) :
    Calls Try.prog 63 #[.pointer (some ⟨R, 0, none⟩)] w fun e w' => ∃ (g m c P' : Nat) (S : List Int), e = .returned (.slice (some ⟨g, 0, none⟩) m c) ∧ OwnN w' w.heap.size g m c S ∧ m ≤ 3 ∧ (∀ s ∈ S, 0 ≤ s ∧ s < 20) ∧ RdAt w' R a len cap P' ∧ P' ≤ P + 5 ∧ w.grownBy w' (some R) := by
  have hRw := h.lt
  have kt : Below w.heap.size w (w.alloc (.cells #[] 3)) := (Below.refl _ _).alloc (Nat.le_refl _) _
  have HO0 : Hid (OwnN (w.alloc (.cells #[] 3)) w.heap.size w.heap.size 0 0 []) := ownN_nil w _ (Nat.le_refl _)
  have HR0 : Hid (RdAt (w.alloc (.cells #[] 3)) R a len cap P) := h.below kt
  have HG0 : Hid (w.grownBy (w.alloc (.cells #[] 3)) (some R)) := grown_below kt
  have HLOW : Hid (Low a len R) := hlow
  obtain ⟨i0, hi, hz0, hz1, hz2⟩ := info_parts Try.infoInt
  clear kt h hlow
  go_enter Try.func63, Try.ntmps63
  go_wp2_with fail
  refine (pick_any R P a len cap _ _ HR0.out (by omega) (by omega)).mono ?_
  rintro e w1 ⟨q1, rfl, hq1, R1, g1⟩
  have hq0 := hq1.1
  have hqm := hq1.2 (by omega)
  obtain ⟨I0, hI0⟩ := Int.eq_ofNat_of_zero_le hq0
  subst hI0
  have HO1 : Hid (OwnN w1 w.heap.size w.heap.size 0 0 []) := HO0.out.grown g1 (fun e => by cases e; omega)
  have HG1 : Hid (w.grownBy w1 (some R)) := grown_trans HG0.out g1
  have HR1 : Hid (RdAt w1 R a len cap (P + 1)) := R1
  clear HO0 HR0 HG0 R1 g1 hq1 hq0
  go_wp2
  go_loopw [3, 4] (fun o iv wr => ∃ (i g m c P' : Nat) (S : List Int), i ≤ 3 ∧ m + i ≤ 3 ∧ iv = .int .i64 (i : Nat) ∧ o = .slice (some ⟨g, 0, none⟩) m c ∧ OwnN wr w.heap.size g m c S ∧ (∀ s ∈ S, 0 ≤ s ∧ s < 20) ∧ RdAt wr R a len cap P' ∧ P' + i ≤ P + 1 + 3 ∧ w.grownBy wr (some R)) (fun _ iv _ => (intOf iv).toNat)
  case atStart => exact ⟨I0, w.heap.size, 0, 0, P + 1, [], by omega, by omega, rfl, rfl, HO1.out, (fun s hs => by cases hs), HR1.out, by omega, HG1.out⟩
  case round =>
    clear HO1 HR1 HG1 hqm
    obtain ⟨i, g, m, c, P', S, hi3, hmi, rfl, rfl, hO, hS, hR, hP', hG⟩ := hrel
    have HO : Hid (OwnN wr w.heap.size g m c S) := hO
    have HS : Hid (∀ s ∈ S, 0 ≤ s ∧ s < 20) := hS
    have HG : Hid (w.grownBy wr (some R)) := hG
    have HR : Hid (RdAt wr R a len cap P') := hR
    clear hO hS hG hR
    by_cases hi0 : i = 0
    · subst hi0
      go_wp2
      go_ret
      exact ⟨g, m, c, P', S, rfl, HO.out, by omega, HS.out, HR.out, by omega, HG.out⟩
    · have hiI : (0 : Int) < (i : Int) := by omega
      have hiN : 0 < i := by omega
      go_wp2_with fail
      refine (pick_any R P' a len cap _ _ HR.out (by omega) (by omega)).mono ?_
      rintro e w2 ⟨q2, rfl, hq2, R2, g2⟩
      have hqa := hq2.1
      have hqb := hq2.2 (by omega)
      have hgR : R < g := by have := HO.out.lt.1; omega
      have HO2 : Hid (OwnN w2 w.heap.size g m c S) := HO.out.grown g2 (fun e => by cases e; omega)
      have HG2 : Hid (w.grownBy w2 (some R)) := grown_trans HG.out g2
      have HR2 : Hid (RdAt w2 R a len cap (P' + 1)) := R2
      have hs2 := HG2.out.size
      clear HO HG HR R2 g2 hq2
      go_wp2_with (at_builtin; refine wpList_append_own_at _ rfl _ _ 23 rfl w.heap.size 3 i0 _ 1 8 Try.underlying23 hi hz0 hz1 hz2 rfl (by decide) _ _ _ rfl (HO2.out.owns.alloc _) ⟨w2.heap.size, 0, none⟩ 1 1 [.int .i64 q2] rfl rfl (cellI_one _ _ _) (by simp [Value.oneCell']) (by unfold maxLen; omega) (by omega) (by simp; omega) ?_; intro v3 w3 hown3 hgrow3 hnil3 hat3; obtain ⟨g3, c3, rfl, HO3, HG3, HR3⟩ := snapsA HO2.out HG2.out HR2.out HLOW.out hgR (wf_pick hqa hqb) hown3 hgrow3; clear hown3 hgrow3 hnil3 hat3 HO2 HG2 HR2)
      have wi : IntKind.i64.wrap ((i : Int) - 1) = ((i - 1 : Nat) : Int) := by
        have e : ((i - 1 : Nat) : Int) = (i : Int) - 1 := by omega
        rw [e, IntWalk.i64_left]; unfold wrap64; omega
      go_wp2
      go_roundw
      case rel => exact ⟨i - 1, g3, m + 1, c3, P' + 1, S ++ [q2], by omega, by omega, by go_num, rfl, HO3.out, (fun s hs => by rcases List.mem_append.1 hs with h | h; exact HS.out s h; rw [List.mem_singleton] at h; subst h; exact ⟨hqa, hqb⟩), HR3.out, by omega, HG3.out⟩
      case measure => simp [intOf]; omega

theorem OwnN.mono {w : World} {base base' g n c : Nat} {S : List Int} (h : OwnN w base g n c S) (hb : base' ≤ base) : OwnN w base' g n c S := by
  refine ⟨⟨h.owns.1, ?_⟩, h.len, h.wfs⟩
  rcases h.owns.2 with h1 | ⟨g', cap, cur, hv, hb', r⟩
  · exact .inl h1
  · exact .inr ⟨g', cap, cur, hv, Nat.le_trans hb hb', r⟩
theorem sd_some {w : World} {base : Nat} {e : TypeId} {size k : Nat} {v : Value} {xs : List Value} (h : w.ownsRow base e size v (k + 1) xs) : ∃ g cap, v = .slice (some ⟨g, 0, none⟩) (k + 1) cap := by
  rcases h.2 with ⟨_, h0⟩ | ⟨g, cap, _, rfl, _⟩
  · omega
  · exact ⟨g, cap, rfl⟩
theorem cell_fiveD (w : World) (T : TypeId) (s t : ByteArray) (q d n : Int) : ∀ j u, (entCells (s, q, d, t, n))[j]? = some u → (w.alloc (.cells #[.string s, .int .i64 q, .int .i64 d, .string t, .int .i64 n] T)).cell? ((⟨w.heap.size, 0, none⟩ : Addr).add j) = some u := by
  intro j u hj
  rw [Go.WideShapes.add_plain]
  match j, hj with
  | 0, hj => simp [entCells] at hj; subst hj; simp
  | 1, hj => simp [entCells] at hj; subst hj; simp
  | 2, hj => simp [entCells] at hj; subst hj; simp
  | 3, hj => simp [entCells] at hj; subst hj; simp
  | 4, hj => simp [entCells] at hj; subst hj; simp
  | j + 5, hj => simp [entCells] at hj
/-- What is drawn. -/
def SqDr (w : World) (e : Ending) (w' : World) : Prop :=
  ∃ (g n c : Nat) (L : List EntD) (gs m cs : Nat) (S : List Int) (b : Bool), e = .returned (.tuple #[.slice (some ⟨g, 0, none⟩) n c, .slice (some ⟨gs, 0, none⟩) m cs, .bool b]) ∧ OwnE w' w.heap.size g n c L ∧ OwnN w' w.heap.size gs m cs S ∧ DrOk L ∧ m ≤ 3 ∧ (∀ s ∈ S, 0 ≤ s ∧ s < 20) ∧ g ≠ gs ∧ Below w.heap.size w w'
def Big (z : Int) : Prop := z = 1000000 ∨ z = -1000000

set_option maxRecDepth 100000 in
set_option maxHeartbeats 8000000 in
theorem drawSq_any (a : Option Addr) (len cap : Nat) (w : World) (hb : BytesAt w a len cap) :
    Calls Try.prog 30 #[.slice a len cap] w (SqDr w) := by
  obtain ⟨hc1, hc2, hc3⟩ := hb
  obtain ⟨i0, hi, hz0, hz1, hz2⟩ := info_parts Try.infoEnt
  go_enter Try.func30, Try.ntmps30
  go_wp2_with fail
  refine (l9Open_any a len cap w hc1 hc2 hc3).mono ?_
  rintro e w1 ⟨len', rfl, hR1, hb1, hsz1⟩
  obtain ⟨R, hR⟩ : ∃ R, R = w.heap.size := ⟨_, rfl⟩
  rw [← hR] at hR1 ⊢
  have low : Low a len' R := by
    rcases hR1.bytes with h0 | ⟨b, off, ha, h1, h2, _⟩
    · exact Or.inl h0
    · exact Or.inr (fun b' off' e => by rw [ha] at e; cases e; omega)
  have HLOW : Hid (Low a len' R) := low
  have HR1 : Hid (RdAt w1 R a len' cap 0) := hR1
  have HB1 : Hid (Below w.heap.size w w1) := hb1
  have hw1 : w1.heap.size = R + 1 := by omega
  have hRw : w.heap.size ≤ R := by omega
  clear hc1 hc2 hc3 hb1 hR1 low hsz1 hR
  go_wp2_with fail
  refine (l4Ents_x R 0 14 a len' cap w1 HR1.out HLOW.out (by omega) (by omega)).mono ?_
  rintro e w2 ⟨g, n, c, P2, L0, rfl, hO2, hn, hF, hR2, hP2, hG2⟩
  have hlen0 : L0.length ≤ 14 := by have h1 := hO2.len; rw [(sort_both L0).2.length_eq] at h1; omega
  have hD := drOk_sort hF (by omega) hlen0
  obtain ⟨L, hL⟩ : ∃ L, sortE L0 = L := ⟨_, rfl⟩
  rw [hL] at hD hO2
  have HD : Hid (DrOk L) := hD.1
  have HN : Hid (∀ e ∈ L, -100 ≤ e.2.2.2.2 ∧ e.2.2.2.2 ≤ 100) := hD.2
  have hg2 := hO2.lt.1
  have S2 : Hid (SdSt w w2 R a len' cap P2 g n c L) := ⟨HB1.out.grown hG2 HB1.out.size (fun k e => by cases e; exact hRw), hR2, hO2.mono HB1.out.size, hRw, by omega, HLOW.out⟩
  clear hO2 hF hR2 hG2 HR1 HB1 HLOW hw1 hg2 hRw hL hD hlen0
  go_upto_region 3 with fail
  go_cut [25] (fun s25 wx => ∃ (B : Bool) (PB : Nat), s25 = .bool B ∧ (B = true → ∃ s q d t m L1, L = (s, q, d, t, m) :: L1 ∧ d ≠ 2) ∧ SdSt w wx R a len' cap PB g n c L ∧ PB ≤ P2 + 1)
  case first =>
    cases hLL : L with
    | nil =>
      have hn0 : n = 0 := by have := S2.out.own.len; rw [hLL] at this; simpa using this.symm
      subst hn0
      subst hLL
      go_wp2
      go_meet
      exact ⟨false, P2, rfl, (fun h => by cases h), S2.out, by omega⟩
    | cons e0 L1 =>
      subst hLL
      obtain ⟨es, eq, ed, et, em⟩ := e0
      have hn0 : 0 < n := by rw [← S2.out.own.len]; simp
      have hnI : (0 : Int) < (n : Int) := by omega
      obtain ⟨_, _, c2, _, _⟩ := S2.out.own.entsAt.cells _ rfl 0 (by simp)
      simp only [Nat.zero_mul, Nat.add_zero, Nat.zero_add, List.getElem_cons_zero] at c2
      have zg := S2.out.own.lt.2
      by_cases hd : ed = 2
      · subst hd
        go_wp2
        go_meet
        exact ⟨false, P2, rfl, (fun h => by cases h), S2.out, by omega⟩
      · have hdB : (ed == 2) = false := by simpa using hd
        have HD2 : Hid (ed ≠ 2) := hd
        go_wp2_with fail
        refine (pick_any R P2 a len' cap 16 w2 S2.out.rd (by omega) (by omega)).mono ?_
        rintro e w3 ⟨q3, rfl, hq3, R3, g3⟩
        have S3 : Hid (SdSt w w3 R a len' cap (P2 + 1) g n c ((es, eq, ed, et, em) :: L1)) := S2.out.read g3 R3
        clear R3 g3 hq3 c2 zg
        go_wp2
        go_meet
        exact ⟨_, P2 + 1, rfl, (fun _ => ⟨es, eq, ed, et, em, L1, rfl, HD2.out⟩), S3.out, by omega⟩
  case rest =>
  obtain ⟨B, PB, rfl, hB, S3, hPB⟩ := hcut
  have S3 : Hid (SdSt w wc R a len' cap PB g n c L) := S3
  clear S2
  go_upto_if 25 with fail
  go_cut [6] (fun s6 wx => ∃ (L' : List EntD) (P' : Nat), s6 = .slice (some ⟨g, 0, none⟩) n c ∧ SdSt w wx R a len' cap P' g n c L' ∧ DrOk L' ∧ P' ≤ P2 + 2)
  case first =>
    cases hBB : B with
    | false =>
      go_wp2
      go_meet
      exact ⟨L, PB, rfl, S3.out, HD.out, by omega⟩
    | true =>
      obtain ⟨es, eq, ed, et, em, L1, rfl, hd⟩ := hB hBB
      have hn0 : 0 < n := by rw [← S3.out.own.len]; simp
      have hnI : (0 : Int) < (n : Int) := by omega
      clear hBB hB
      go_wp2_with fail
      obtain ⟨w3, hw3⟩ : ∃ w3, w3 = wc := ⟨_, rfl⟩
      subst hw3
      have ka : Below w3.heap.size w3 (w3.alloc (.cells (([1000000, -1000000] : List Int).map (Value.int .i64)).toArray 3)) := (Below.refl _ _).alloc (Nat.le_refl _) _
      have S4 := S3.out.below ka
      refine (num_any Big R PB a len' cap w3.heap.size 0 2 2 _ S4.rd (by omega) (by omega) (by omega) (by have := S3.out.rd.lt; omega) (by simp) (ints_new w3 3 [1000000, -1000000] Big ?_)).mono ?_
      · intro s hs
        simp only [List.mem_cons, List.not_mem_nil, or_false] at hs
        rcases hs with rfl | rfl <;> (unfold Big; decide)
      rintro e w5 ⟨nv, rfl, hnv, R5, g5⟩
      have S5 : Hid (SdSt w w5 R a len' cap (PB + 1) g n c ((es, eq, ed, et, em) :: L1)) := S4.read g5 R5
      have HBG : Hid (Big nv) := hnv
      have hwv : (Lit.int .i64 nv).wf = true := by rcases hnv with rfl | rfl <;> decide
      obtain ⟨_, _, _, _, x4⟩ := S5.out.own.entsAt.cells _ rfl 0 (by simp)
      simp only [Nat.zero_mul, Nat.add_zero, Nat.zero_add, List.getElem_cons_zero] at x4
      have y4 := S5.out.own.owns.frozenAt 4
      have zg := S5.out.own.lt.2
      have T := own_setN S5.out.own nv hwv
      have S6 : Hid (SdSt w (w5.setCell ⟨g, 4, none⟩ (.int .i64 nv)) R a len' cap (PB + 1) g n c ((es, eq, ed, et, nv) :: L1)) := S5.out.step T.2 T.1 S5.out.gr
      have HD6 : Hid (DrOk ((es, eq, ed, et, nv) :: L1)) := drOk_first HD.out (fun e he => HN.out e (List.mem_cons_of_mem _ he)) hd HBG.out
      clear S4 ka R5 g5 hnv T S5 S3 HBG hwv
      go_wp2
      go_meet
      exact ⟨_, PB + 1, rfl, S6.out, HD6.out, by omega⟩
  case rest =>
    clear S3 hB
    obtain ⟨L3, P3, rfl, S3, hD3, hP3⟩ := hcut
    have S3 : Hid (SdSt w wc R a len' cap P3 g n c L3) := S3
    have HD3 : Hid (DrOk L3) := hD3
    clear hD3 HD HN
    go_upto_region 5 with fail
    go_cut [39] (fun s39 wx => ∃ (D : Bool) (PD : Nat), s39 = .bool D ∧ (D = true → 1 < n) ∧ SdSt w wx R a len' cap PD g n c L3 ∧ PD ≤ P3 + 1)
    case first =>
      by_cases hn1 : 1 < n
      · have hnI : (1 : Int) < (n : Int) := by omega
        go_wp2_with fail
        refine (pick_any R P3 a len' cap 24 wc S3.out.rd (by omega) (by omega)).mono ?_
        rintro e w4 ⟨q4, rfl, hq4, R4, g4⟩
        have S4 : Hid (SdSt w w4 R a len' cap (P3 + 1) g n c L3) := S3.out.read g4 R4
        clear R4 g4 hq4 S3
        go_wp2
        go_meet
        exact ⟨_, P3 + 1, rfl, (fun _ => hn1), S4.out, by omega⟩
      · have hnI : ¬ (1 : Int) < (n : Int) := by omega
        go_wp2
        go_meet
        exact ⟨false, P3, rfl, (fun h => by cases h), S3.out, by omega⟩
    case rest =>
    clear S3
    obtain ⟨D, PD, rfl, hDn, S4, hPD⟩ := hcut
    have S4 : Hid (SdSt w wc R a len' cap PD g n c L3) := S4
    go_upto_if 39 with fail
    go_cut [6] (fun s6 wx => ∃ (g n c : Nat) (L' : List EntD) (P' : Nat), s6 = .slice (some ⟨g, 0, none⟩) n c ∧ SdSt w wx R a len' cap P' g n c L' ∧ DrOk L' ∧ P' ≤ P3 + 1)
    case first =>
      cases hDD : D with
      | false =>
        go_wp2
        go_meet
        exact ⟨g, n, c, L3, PD, rfl, S4.out, HD3.out, by omega⟩
      | true =>
        have hn1 := hDn hDD
        clear hDn hDD
        have hn0 : 0 < n := by omega
        have hn0I : (0 : Int) < (n : Int) := by omega
        obtain ⟨e0, L1, hL3⟩ : ∃ e0 L1, L3 = e0 :: L1 := by
          cases L3 with
          | nil => have := S4.out.own.len; simp at this; omega
          | cons e0 L1 => exact ⟨e0, L1, rfl⟩
        subst hL3
        obtain ⟨es, eq, ed, et, em⟩ := e0
        obtain ⟨w4, hw4⟩ : ∃ w4, w4 = wc := ⟨_, rfl⟩
        subst hw4
        obtain ⟨x0, x1, x2, x3, x4⟩ := S4.out.own.entsAt.cells _ rfl 0 (by simp)
        simp only [Nat.zero_mul, Nat.add_zero, Nat.zero_add, List.getElem_cons_zero] at x0 x1 x2 x3 x4
        have zg := S4.out.own.lt.2
        have hew := S4.out.own.ents _ List.mem_cons_self
        have hl4 := S4.out.own.len
        have HRW : Hid (w4.ownsRow (R + 1) 54 5 (.slice (some ⟨g, 0, none⟩) n c) n (flatE ((es, eq, ed, et, em) :: L1))) := sd_raise S4.out.own (by have := S4.out.gr; omega)
        have hzR := S4.out.rd.lt
        have hal : ∀ o, Below w4.heap.size w4 (w4.alloc o) := fun o => (Below.refl _ _).alloc (Nat.le_refl _) o
        have HD5 : Hid (DrOk (((es, eq, ed, et, em) :: L1) ++ [(es, eq, ed, et, em)])) := drOk_twice HD3.out (by omega)
        have HL4 : Hid (((es, eq, ed, et, em) :: L1).length = n) := hl4
        clear hl4
        go_wp2_with (at_builtin; refine wpList_append_own_at _ rfl _ _ 25 rfl (R + 1) 54 i0 _ 5 56 Try.underlying25 hi hz0 hz1 hz2 rfl (by decide) _ _ _ rfl (HRW.out.alloc _) ⟨w4.heap.size, 0, none⟩ 1 1 (entCells (es, eq, ed, et, em)) rfl rfl (cell_fiveD _ _ _ _ _ _ _) (flatE_one [(es, eq, ed, et, em)]) (by unfold maxLen; omega) (by omega) (by simp; omega) ?_; intro v5 w5 hown5 hgrow5 hnil5 hat5; obtain ⟨g5, c5, rfl⟩ := sd_some hown5; have S5 := (S4.out.below (hal _)).more hgrow5 (by simpa [flatE] using hown5) hew; clear hown5 hgrow5 hnil5 hat5)
        go_meet
        exact ⟨g5, n + 1, c5, _, PD, rfl, S5, HD5.out, by omega⟩
    case rest =>
      clear S4 HD3 hn hDn hPD
      obtain ⟨g, n, c, L4, P4, rfl, S4, hD4, hP4⟩ := hcut
      have S4 : Hid (SdSt w wc R a len' cap P4 g n c L4) := S4
      have HD4 : Hid (DrOk L4) := hD4
      clear hD4
      go_wp2_with fail
      refine (l4Snaps_any R P4 a len' cap wc S4.out.rd S4.out.low (by omega)).mono ?_
      rintro e w5 ⟨gs, m, cs, P5, S, rfl, hN5, hm, hS, R5, hP5, g5⟩
      have S5 : Hid (SdSt w w5 R a len' cap P5 g n c L4) := S4.out.read g5 R5
      have HN5 : Hid (OwnN w5 wc.heap.size gs m cs S) := hN5
      have HSS : Hid (∀ s ∈ S, 0 ≤ s ∧ s < 20) := hS
      have hgs : g ≠ gs := by have h1 := S4.out.own.lt.2; have h2 := hN5.lt.1; omega
      have hRs : R ≠ gs := by have h1 := S4.out.rd.lt; have h2 := hN5.lt.1; omega
      have hwc := S4.out.all.size
      clear S4 hN5 hS R5 g5
      go_wp2_with fail
      refine (pick_any R P5 a len' cap 2 w5 S5.out.rd (by omega) (by omega)).mono ?_
      rintro e w6 ⟨q6, rfl, hq6, R6, g6⟩
      have S6 : Hid (SdSt w w6 R a len' cap (P5 + 1) g n c L4) := S5.out.read g6 R6
      have HN6 : Hid (OwnN w6 w.heap.size gs m cs S) := (HN5.out.mono hwc).grown g6 (fun e => hRs (Option.some.inj e).symm)
      clear S5 HN5 R6 g6 hq6
      go_wp2
      refine bodyPost_ret (v := .tuple #[.slice (some ⟨g, 0, none⟩) n c, .slice (some ⟨gs, 0, none⟩) m cs, .bool (q6 == 0)]) (by simp [results, Try.results30, go_sem]) rfl ?_
      exact ⟨g, n, c, L4, gs, m, cs, S, _, rfl, S6.out.own, HN6.out, HD4.out, hm, HSS.out, hgs, S6.out.all⟩
end Go.Proofs.Ythhiahjafhkbbaa

namespace Go.Proofs.Ythhiahjafhkbbaa
open Go.RowKit

/-- Entries of unlike times, a key and a time that have been drawn. -/
def AllR (w : World) (e : Ending) (w' : World) : Prop :=
  ∃ (g n c : Nat) (L : List EntD) (key : ByteArray) (seq : Int), e = .returned (.tuple #[.slice (some ⟨g, 0, none⟩) n c, .string key, .int .i64 seq]) ∧ OwnE w' w.heap.size g n c L ∧ n ≤ 12 ∧ AllX L 24 ∧ KeyX key ∧ (0 ≤ seq ∧ seq ≤ 20) ∧ Below w.heap.size w w'
theorem below_read {w v v' : World} {R : Nat} (h : Below w.heap.size w v) (hg : v.grownBy v' (some R)) (hR : w.heap.size ≤ R) : Below w.heap.size w v' :=
  h.grown hg h.size (fun k e => by cases e; exact hR)

theorem few_text {L : List EntD} {B : Nat} (h : AllX L B) : ∀ e ∈ L, e.2.2.2.1.size ≤ 281474976710656 := fun e he => by
  have := (h.allF e he).2.1.1
  omega

set_option maxRecDepth 100000 in
set_option maxHeartbeats 1000000 in
theorem drawAll_any (a : Option Addr) (len cap : Nat) (w : World) (hb : BytesAt w a len cap) :
    Calls Try.prog 33 #[.slice a len cap] w (AllR w) := by
  obtain ⟨hc1, hc2, hc3⟩ := hb
  go_enter Try.func33, Try.ntmps33
  go_wp2_with fail
  refine (l9Open_any a len cap w hc1 hc2 hc3).mono ?_
  rintro e w1 ⟨len', rfl, hR1, hb1, hsz1⟩
  obtain ⟨R, hR⟩ : ∃ R, R = w.heap.size := ⟨_, rfl⟩
  rw [← hR] at hR1 ⊢
  have HRw : Hid (w.heap.size ≤ R) := by show w.heap.size ≤ R; omega
  have HLOW : Hid (Low a len' R) := by
    rcases hR1.bytes with h0 | ⟨b, off, ha, h1, h2, _⟩
    · exact Or.inl h0
    · exact Or.inr (fun b' off' e => by rw [ha] at e; cases e; omega)
  have HR1 : Hid (RdAt w1 R a len' cap 0) := hR1
  have HB1 : Hid (Below w.heap.size w w1) := hb1
  clear hc1 hc2 hc3 hsz1 hR hR1 hb1
  go_wp2_with fail
  refine (l3List_x R 0 12 a len' cap w1 HR1.out HLOW.out (by omega) (by omega)).mono ?_
  rintro e w2 ⟨g, n, c, P, L, rfl, hO, hn, hX, hR2, hP, hg2⟩
  have HO2 : Hid (OwnE w2 w1.heap.size g n c L) := hO
  have HX : Hid (AllX L 24) := hX
  have HR2 : Hid (RdAt w2 R a len' cap P) := hR2
  have HB2 : Hid (Below w.heap.size w w2) := below_read HB1.out hg2 HRw.out
  have hRl : R < w1.heap.size := HR1.out.lt
  have hgR : R < g := Nat.lt_of_lt_of_le hRl hO.lt.1
  clear hO hX hR2 hg2
  go_wp2_with fail
  refine (l3Key_x R P a len' cap w2 HR2.out (by omega)).mono ?_
  rintro e w3 ⟨key, rfl, hkey, hR3, hg3⟩
  have HO3 : Hid (OwnE w3 w1.heap.size g n c L) := HO2.out.gR hg3 hgR
  have HR3 : Hid (RdAt w3 R a len' cap (P + 1)) := hR3
  have HB3 : Hid (Below w.heap.size w w3) := below_read HB2.out hg3 HRw.out
  have HKEY : Hid (KeyX key) := hkey
  clear hkey hR3 hg3 HO2 HR2 HB2
  go_wp2_with fail
  refine (pick_any R (P + 1) a len' cap 20 w3 HR3.out (by omega) (by omega)).mono ?_
  rintro e w4 ⟨q, rfl, hq, hR4, hg4⟩
  have HO4 : Hid (OwnE w4 w1.heap.size g n c L) := HO3.out.gR hg4 hgR
  have HB4 : Hid (Below w.heap.size w w4) := below_read HB3.out hg4 HRw.out
  have HQ : Hid (PickR 20 q) := hq
  clear hq hR4 hg4 HO3 HR3 HB3
  go_wp2
  refine bodyPost_ret (v := .tuple #[.slice (some ⟨g, 0, none⟩) n c, .string key, .int .i64 q]) (by simp [results, Try.results33, go_sem]) rfl ?_
  exact ⟨g, n, c, L, key, q, rfl, HO4.out.mono HB1.out.size, hn, HX.out, HKEY.out, (by have := HQ.out; unfold PickR at this; omega), HB4.out⟩

/-! When two cells are one. -/
set_option maxRecDepth 100000 in
theorem neq_cell_same (b : Bool) (t : ByteArray) (n : Int) (w : World) : (binOp .neq 35 (.agg #[.bool b, .string t, .int .i64 n]) (.agg #[.bool b, .string t, .int .i64 n])).run Try.prog w = .ok (.bool false) w := by
  have hs := run_equalIn_struct (P := Try.prog) w 9999 35 #[.bool b, .string t, .int .i64 n] #[.bool b, .string t, .int .i64 n] (by kernel_rfl) (by kernel_rfl)
  simp [binOp, Op.equal, Op.maxDepth, hs, go_sem, Try.underlying35]
set_option maxRecDepth 100000 in
theorem eql_cell_same (b : Bool) (t : ByteArray) (n : Int) (w : World) : (binOp .eql 35 (.agg #[.bool b, .string t, .int .i64 n]) (.agg #[.bool b, .string t, .int .i64 n])).run Try.prog w = .ok (.bool true) w := by
  have hs := run_equalIn_struct (P := Try.prog) w 9999 35 #[.bool b, .string t, .int .i64 n] #[.bool b, .string t, .int .i64 n] (by kernel_rfl) (by kernel_rfl)
  simp [binOp, Op.equal, Op.maxDepth, hs, go_sem, Try.underlying35]
end Go.Proofs.Ythhiahjafhkbbaa

namespace Go.Proofs.Ythhiahjafhkbbaa
open Go.RowKit

theorem bytes_ne {s s' : ByteArray} (h : ¬ s = s') : ¬ s.toList = s'.toList := fun e => h (by
  rw [ByteArray.toList_eq, ByteArray.toList_eq] at e
  obtain ⟨⟨x⟩⟩ := s
  obtain ⟨⟨y⟩⟩ := s'
  simpa using e)
set_option maxRecDepth 100000 in
theorem neq_ent_same (s t : ByteArray) (q d n : Int) (w : World) : (binOp .neq 54 (.agg #[.string s, .int .i64 q, .int .i64 d, .string t, .int .i64 n]) (.agg #[.string s, .int .i64 q, .int .i64 d, .string t, .int .i64 n])).run Try.prog w = .ok (.bool false) w := by
  have hs := run_equalIn_struct (P := Try.prog) w 9999 54 #[.string s, .int .i64 q, .int .i64 d, .string t, .int .i64 n] #[.string s, .int .i64 q, .int .i64 d, .string t, .int .i64 n] (by kernel_rfl) (by kernel_rfl)
  simp [binOp, Op.equal, Op.maxDepth, hs, go_sem, Try.underlying54]
set_option maxRecDepth 100000 in
theorem neq_ent_diff (s t : ByteArray) (q d n : Int) (s' t' : ByteArray) (q' d' n' : Int) (w : World) (h : ¬ ((s, q, d, t, n) : EntD) = (s', q', d', t', n')) : (binOp .neq 54 (.agg #[.string s, .int .i64 q, .int .i64 d, .string t, .int .i64 n]) (.agg #[.string s', .int .i64 q', .int .i64 d', .string t', .int .i64 n'])).run Try.prog w = .ok (.bool true) w := by
  have hs := run_equalIn_struct (P := Try.prog) w 9999 54 #[.string s, .int .i64 q, .int .i64 d, .string t, .int .i64 n] #[.string s', .int .i64 q', .int .i64 d', .string t', .int .i64 n'] (by kernel_rfl) (by kernel_rfl)
  by_cases h1 : s = s'
  · subst h1
    by_cases h2 : q = q'
    · subst h2
      by_cases h3 : d = d'
      · subst h3
        by_cases h4 : t = t'
        · subst h4
          have h5 : ¬ n = n' := fun e => h (by rw [e])
          simp [binOp, Op.equal, Op.maxDepth, hs, go_sem, Try.underlying54, h5]
        · have h4' := bytes_ne h4
          simp [binOp, Op.equal, Op.maxDepth, hs, go_sem, Try.underlying54, h4']
      · simp [binOp, Op.equal, Op.maxDepth, hs, go_sem, Try.underlying54, h3]
    · simp [binOp, Op.equal, Op.maxDepth, hs, go_sem, Try.underlying54, h2]
  · have h4 := bytes_ne h1
    simp [binOp, Op.equal, Op.maxDepth, hs, go_sem, Try.underlying54, h4]

theorem ents_eq_snoc {L1 L2 : List EntD} {k : Nat} {l : EntD} (h1 : L1[k]? = some l) (h2 : L2[k]? = some l) (h : L1.take k = L2.take k) : L1.take (k + 1) = L2.take (k + 1) := by
  rw [List.take_add_one, List.take_add_one, h1, h2, h]

end Go.Proofs.Ythhiahjafhkbbaa

namespace Go.Proofs.Ythhiahjafhkbbaa
open Go.RowKit

set_option maxHeartbeats 800000 in
theorem wpEnts_any (a1 a2 : Option Addr) (n1 c1 n2 c2 : Nat) (L1 L2 : List EntD) (w : World) (h1 : EntsAt w a1 n1 c1 L1) (h2 : EntsAt w a2 n2 c2 L2) :
    Calls Try.prog 31 #[.slice a1 n1 c1, .slice a2 n2 c2] w fun e w' => e = .returned (.bool (decide (L1 = L2))) ∧ Below w.heap.size w w' := by
  have HN1 : Hid (L1.length = n1) := h1.length
  have HN2 : Hid (L2.length = n2) := h2.length
  have hr1 := h1.room
  have hb1 := h1.big
  have hr2 := h2.room
  have hb2 := h2.big
  unfold maxLen at hb1 hb2
  have H1 : Hid (EntsAt w a1 n1 c1 L1) := h1
  have H2 : Hid (EntsAt w a2 n2 c2 L2) := h2
  clear h1 h2
  by_cases hn : n1 = n2
  · subst hn
    go_enter Try.func31, Try.ntmps31
    go_wp2
    go_loopw [5] (fun i wr => ∃ k : Nat, k ≤ n1 ∧ i = .int .i64 k ∧ Below w.heap.size w wr ∧ L1.take k = L2.take k) (fun i _ => n1 - (intOf i).toNat)
    case atStart => exact ⟨0, Nat.zero_le _, rfl, Below.refl _ _, rfl⟩
    case round =>
      obtain ⟨k, hk, rfl, hb, heq⟩ := hrel
      have HEQ : Hid (L1.take k = L2.take k) := heq
      clear heq
      by_cases hlt : k < n1
      · obtain ⟨x1, o1, rfl, hx1⟩ := H1.out.form (by omega)
        obtain ⟨x2, o2, rfl, hx2⟩ := H2.out.form (by omega)
        obtain ⟨s, q, d, t, n, hg, _, g0, g1, g2, g3, g4⟩ := H1.out.ent hb hx1 k hlt
        obtain ⟨s', q', d', t', n', hg', _, p0, p1, p2, p3, p4⟩ := H2.out.ent hb hx2 k hlt
        have HG : Hid (L1[k]? = some (s, q, d, t, n)) := hg
        have HG' : Hid (L2[k]? = some (s', q', d', t', n')) := hg'
        have hltI : (k : Int) < (n1 : Int) := by omega
        clear hg hg'
        by_cases hl : (s, q, d, t, n) = (s', q', d', t', n')
        · cases hl
          have hne := neq_ent_same s t q d n
          go_wp2_with fail
          go_quiet (fail)
          go_wp2
          go_roundw
          case rel => exact ⟨k + 1, by omega, by go_num, below_drewN hb _, ents_eq_snoc HG.out HG'.out HEQ.out⟩
          case measure => simp [intOf]; omega
        · have hne := fun w => neq_ent_diff s t q d n s' t' q' d' n' w hl
          have HD : Hid (¬ (s, q, d, t, n) = (s', q', d', t', n')) := hl
          clear hl
          go_wp2_with fail
          go_quiet (fail)
          go_wp2
          go_ret
          refine ⟨ret_bool (decide_eq_false ?_).symm, below_drewN hb _⟩
          intro e
          rw [e, HG'.out] at HG
          exact HD.out (by simpa [Hid] using HG.symm)
      · go_wp2
        go_ret
        refine ⟨ret_bool (decide_eq_true ?_).symm, hb⟩
        have := HEQ.out
        rw [List.take_of_length_le (by rw [HN1.out]; omega), List.take_of_length_le (by rw [HN2.out]; omega)] at this
        exact this
  · go_enter Try.func31, Try.ntmps31
    go_wp2
    go_ret
    refine ⟨ret_bool (decide_eq_false ?_).symm, Below.refl _ _⟩
    intro e
    rw [e, HN2.out] at HN1
    exact hn HN1.out.symm

end Go.Proofs.Ythhiahjafhkbbaa

namespace Go.Proofs.Ythhiahjafhkbbaa
open Go.RowKit

attribute [local go_sem] Oper.semAt_some

theorem chS_two {bs : Nat} (hb : 1 ≤ bs) (R : List EntD) : chS bs R = cutC (R.take bs) ++ (cutC ((R.drop bs).take bs) ++ chS bs (R.drop (2 * bs))) := by
  rw [chS_go hb R, chS_go hb (R.drop bs), List.drop_drop, show bs + bs = 2 * bs by omega]
theorem mrg_two (bs : Nat) (R : List EntD) : mrg (cutC (R.take bs)) (cutC ((R.drop bs).take bs)) = cutC (R.take (2 * bs)) := by
  have h := cut_two bs (R.take (2 * bs))
  rw [List.take_take, List.drop_take, Nat.min_eq_left (by omega), show 2 * bs - bs = bs by omega] at h
  exact h

set_option maxRecDepth 100000 in
set_option maxHeartbeats 16000000 in
theorem stableAll (base g n c : Nat) (L : List EntD) (w : World) (hO : OwnE w base g n c L) (hn : n ≤ 1048576) :
    Calls Try.prog 79 #[.slice (some ⟨g, 0, none⟩) n c, .int .i64 n, .func (.func 52) #[] #[]] w fun e w' => e = .returned (.tuple #[]) ∧ OwnE w' base g n c (cutC L) ∧ w.grownBy w' (some g) := by
  have HLN : Hid (L.length = n) := hO.len
  have HO : Hid (OwnE w base g n c L) := hO
  clear hO
  go_enter Try.func79, Try.ntmps79
  go_wp2
  go_loopw [7, 8] (fun va vb wr => ∃ (a : Nat) (Zs : List EntD), va = .int .i64 a ∧ vb = .int .i64 ((a + 20 : Nat) : Int) ∧ a ≤ n ∧ Zs.length = a ∧ chS 20 L = Zs ++ chS 20 (L.drop a) ∧ OwnE wr base g n c (Zs ++ L.drop a) ∧ w.grownBy wr (some g)) (fun va _ _ => n - (intOf va).toNat)
  case atStart => exact ⟨0, [], rfl, rfl, Nat.zero_le _, rfl, by simp, by simpa using HO.out, ⟨rfl, rfl, rfl, Nat.le_refl _, fun _ _ _ => rfl⟩⟩
  case round =>
    obtain ⟨a, Zs, rfl, rfl, han, hz, hch, hO1, hG1⟩ := hrel
    have HZ : Hid (Zs.length = a) := hz
    have HCH : Hid (chS 20 L = Zs ++ chS 20 (L.drop a)) := hch
    have HO1 : Hid (OwnE wr base g n c (Zs ++ L.drop a)) := hO1
    have HG1 : Hid (w.grownBy wr (some g)) := hG1
    clear hz hch hO1 hG1 HO
    obtain ⟨b, hb⟩ : ∃ b, b = a + 20 := ⟨_, rfl⟩
    rw [← hb]
    by_cases hbn : b ≤ n
    · have hbI : (b : Int) ≤ (n : Int) := by omega
      have rb : IntKind.i64.wrap ((b : Int) + 20) = ((b + 20 : Nat) : Int) := by rw [IntKind.wrap_i64]; omega
      have hsp : L.drop a = (L.drop a).take 20 ++ L.drop b := by rw [hb, ← List.drop_drop, List.take_append_drop]
      have hxl : ((L.drop a).take 20).length = 20 := by have := HLN.out; simp; omega
      have HO2 : Hid (OwnE wr base g n c (Zs ++ ((L.drop a).take 20 ++ L.drop b))) := by have := HO1.out; rw [hsp] at this; exact this
      have HCH2 : Hid (chS 20 L = (Zs ++ cutC ((L.drop a).take 20)) ++ chS 20 (L.drop b)) := by
        show chS 20 L = _
        rw [HCH.out, chS_go (by omega) (L.drop a), List.drop_drop, ← hb, List.append_assoc]
      have HZ2 : Hid ((Zs ++ cutC ((L.drop a).take 20)).length = b) := by show _ = b; rw [List.length_append, cutC_len, hxl, HZ.out, hb]
      have HBE : Hid (b = Zs.length + ((L.drop a).take 20).length) := by show b = _; rw [hxl, HZ.out]; exact hb
      have HAB : Hid (a < b) := by show a < b; omega
      clear hsp hxl hb
      go_wp2_with fail
      refine (insPart base g n c Zs ((L.drop a).take 20) (L.drop b) a b _ HO2.out HZ.out.symm HBE.out hn).mono ?_
      rintro e w1 ⟨rfl, hO3, hG3⟩
      have HO3 : Hid (OwnE w1 base g n c ((Zs ++ cutC ((L.drop a).take 20)) ++ L.drop b)) := by simpa [Hid] using hO3
      have HG3 : Hid (w.grownBy w1 (some g)) := grown_trans HG1.out hG3
      clear hO3 hG3
      go_wp2
      go_roundw
      case rel => exact ⟨b, _, rfl, rfl, hbn, HZ2.out, HCH2.out, HO3.out, HG3.out⟩
      case measure => have := HAB.out; simp [intOf]; omega
    · have hbI : ¬ (b : Int) ≤ (n : Int) := by omega
      have HO2 : Hid (OwnE wr base g n c (Zs ++ (L.drop a ++ []))) := by simpa [Hid] using HO1.out
      have HNE : Hid (n = Zs.length + (L.drop a).length) := by show n = _; have := HLN.out; have := HZ.out; rw [List.length_drop]; omega
      have HFW : Hid (chS 20 L = Zs ++ cutC (L.drop a)) := by show chS 20 L = _; rw [HCH.out, chS_few (by have := HLN.out; rw [List.length_drop]; omega)]
      clear hb
      go_wp2_with fail
      refine (insPart base g n c Zs (L.drop a) [] a n _ HO2.out HZ.out.symm HNE.out hn).mono ?_
      rintro e w1 ⟨rfl, hO3, hG3⟩
      have HO3 : Hid (OwnE w1 base g n c (chS 20 L)) := by rw [HFW.out]; simpa [Hid] using hO3
      have HG3 : Hid (w.grownBy w1 (some g)) := grown_trans HG1.out hG3
      clear hO3 hG3 HO1 HG1 HO2
      go_wp2
      go_loopw [6] (fun vb wq => ∃ bs : Nat, vb = .int .i64 bs ∧ 20 ≤ bs ∧ bs ≤ 2097152 ∧ OwnE wq base g n c (chS bs L) ∧ w.grownBy wq (some g)) (fun vb _ => 4194304 - (intOf vb).toNat)
      case atStart => exact ⟨20, rfl, Nat.le_refl _, by omega, HO3.out, HG3.out⟩
      case round =>
      rename World => wo
      obtain ⟨bs, rfl, hb20, hbm, hO4, hG4⟩ := hrel
      have HO4 : Hid (OwnE wo base g n c (chS bs L)) := hO4
      have HG4 : Hid (w.grownBy wo (some g)) := hG4
      clear hO4 hG4 HO3 HG3
      by_cases hbs : bs < n
      · have hbsI : (bs : Int) < (n : Int) := by omega
        obtain ⟨d, hd⟩ : ∃ d, d = 2 * bs := ⟨_, rfl⟩
        have r2 : IntKind.i64.wrap (2 * (bs : Int)) = (d : Int) := by rw [IntKind.wrap_i64]; omega
        have r2' : IntKind.i64.wrap ((bs : Int) * 2) = (d : Int) := by rw [IntKind.wrap_i64]; omega
        have HDB : Hid (d = 2 * bs) := hd
        have HB20 : Hid (20 ≤ bs) := hb20
        have HBN : Hid (bs < n) := hbs
        clear hd hb20 hbm hbs
        go_wp2
        go_loopw [7, 8] (fun va vb wr => ∃ (a : Nat) (Zs : List EntD), va = .int .i64 a ∧ vb = .int .i64 ((a + d : Nat) : Int) ∧ a ≤ n ∧ Zs.length = a ∧ chS d L = Zs ++ chS d (L.drop a) ∧ OwnE wr base g n c (Zs ++ chS bs (L.drop a)) ∧ w.grownBy wr (some g)) (fun va _ _ => n - (intOf va).toNat)
        case atStart => exact ⟨0, [], rfl, by rw [Nat.zero_add], Nat.zero_le _, rfl, by simp, by simpa using HO4.out, HG4.out⟩
        case round =>
        obtain ⟨a, Zs, rfl, rfl, han, hz, hch, hO5, hG5⟩ := hrel
        have HZ : Hid (Zs.length = a) := hz
        have HCH : Hid (chS d L = Zs ++ chS d (L.drop a)) := hch
        have HO5 : Hid (OwnE wr base g n c (Zs ++ chS bs (L.drop a))) := hO5
        have HG5 : Hid (w.grownBy wr (some g)) := hG5
        clear hz hch hO5 hG5 HO4
        obtain ⟨b, hb⟩ : ∃ b, b = a + d := ⟨_, rfl⟩
        rw [← hb]
        obtain ⟨m, hm⟩ : ∃ m, m = a + bs := ⟨_, rfl⟩
        have hbm : b = m + bs := by have := HDB.out; omega
        have rm : IntKind.i64.wrap ((a : Int) + (bs : Int)) = (m : Int) := by have := HBN.out; rw [IntKind.wrap_i64]; omega
        by_cases hbn : b ≤ n
        · have hbI : (b : Int) ≤ (n : Int) := by omega
          have rb : IntKind.i64.wrap ((b : Int) + (d : Int)) = ((b + d : Nat) : Int) := by have := HBN.out; have := HDB.out; rw [IntKind.wrap_i64]; omega
          have hxl : ((L.drop a).take bs).length = bs := by have := HLN.out; simp; omega
          have hyl : ((L.drop m).take bs).length = bs := by have := HLN.out; simp; omega
          have hsp : chS bs (L.drop a) = cutC ((L.drop a).take bs) ++ (cutC ((L.drop m).take bs) ++ chS bs (L.drop b)) := by
            have h := chS_two (show 1 ≤ bs by have := HB20.out; omega) (L.drop a)
            rw [List.drop_drop, List.drop_drop, ← hm, ← HDB.out, ← hb] at h
            exact h
          have HO6 : Hid (OwnE wr base g n c (Zs ++ (cutC ((L.drop a).take bs) ++ (cutC ((L.drop m).take bs) ++ chS bs (L.drop b))))) := by have := HO5.out; rw [hsp] at this; exact this
          have HMG : Hid (mrg (cutC ((L.drop a).take bs)) (cutC ((L.drop m).take bs)) = cutC ((L.drop a).take d)) := by
            show _ = _
            have h := mrg_two bs (L.drop a)
            rw [List.drop_drop, ← hm, ← HDB.out] at h
            exact h
          have HCH2 : Hid (chS d L = (Zs ++ cutC ((L.drop a).take d)) ++ chS d (L.drop b)) := by
            show chS d L = _
            rw [HCH.out, chS_go (by have := HB20.out; have := HDB.out; omega) (L.drop a), List.drop_drop, ← hb, List.append_assoc]
          have HZ2 : Hid ((Zs ++ cutC ((L.drop a).take d)).length = b) := by
            show _ = b
            have := HLN.out; have := HZ.out
            rw [List.length_append, cutC_len, List.length_take, List.length_drop]; omega
          have HXL : Hid (1 ≤ (cutC ((L.drop a).take bs)).length) := by show _ ≤ _; rw [cutC_len, hxl]; have := HB20.out; omega
          have HYL : Hid (1 ≤ (cutC ((L.drop m).take bs)).length) := by show _ ≤ _; rw [cutC_len, hyl]; have := HB20.out; omega
          have HME : Hid (m = a + (cutC ((L.drop a).take bs)).length) := by show m = _; rw [cutC_len, hxl]; exact hm
          have HBE : Hid (b = m + (cutC ((L.drop m).take bs)).length) := by show b = _; rw [cutC_len, hyl]; exact hbm
          have HAB : Hid (a < b) := by show a < b; have := HB20.out; omega
          have HBL : Hid (b ≤ n) := hbn
          clear hsp hxl hyl hb hm hbm hbn
          go_wp2_with fail
          refine (symMerge base g n c hn _ Zs (cutC ((L.drop a).take bs)) (cutC ((L.drop m).take bs)) (chS bs (L.drop b)) a m b _ (Nat.le_refl _) HO6.out (cutC_sorted _) (cutC_sorted _) HXL.out HYL.out HZ.out.symm HME.out HBE.out).mono ?_
          rintro e w1 ⟨rfl, hO7, hG7⟩
          have HO7 : Hid (OwnE w1 base g n c ((Zs ++ cutC ((L.drop a).take d)) ++ chS bs (L.drop b))) := by show OwnE _ _ _ _ _ _; rw [← HMG.out, List.append_assoc]; exact hO7
          have HG7 : Hid (w.grownBy w1 (some g)) := grown_trans HG5.out hG7
          clear hO7 hG7
          go_wp2
          go_roundw
          case rel => exact ⟨b, _, rfl, rfl, HBL.out, HZ2.out, HCH2.out, HO7.out, HG7.out⟩
          case measure => have := HAB.out; have := HBL.out; simp [intOf]; omega
        · have hbI : ¬ (b : Int) ≤ (n : Int) := by omega
          have HFD : Hid (chS d L = Zs ++ cutC (L.drop a)) := by show chS d L = _; rw [HCH.out, chS_few (by have := HLN.out; rw [List.length_drop]; omega)]
          by_cases hmn : m < n
          · have hmI : (m : Int) < (n : Int) := by omega
            have hxl : ((L.drop a).take bs).length = bs := by have := HLN.out; simp; omega
            have hyl : (L.drop m).length = n - m := by have := HLN.out; rw [List.length_drop]; omega
            have hsp : chS bs (L.drop a) = cutC ((L.drop a).take bs) ++ (cutC (L.drop m) ++ []) := by
              rw [chS_go (show 1 ≤ bs by have := HB20.out; omega) (L.drop a), List.drop_drop, ← hm, chS_few (by rw [hyl]; omega), List.append_nil]
            have HO6 : Hid (OwnE wr base g n c (Zs ++ (cutC ((L.drop a).take bs) ++ (cutC (L.drop m) ++ [])))) := by have := HO5.out; rw [hsp] at this; exact this
            have HMG : Hid (mrg (cutC ((L.drop a).take bs)) (cutC (L.drop m)) = cutC (L.drop a)) := by
              show _ = _
              have h := cut_two bs (L.drop a)
              rw [List.drop_drop, ← hm] at h
              exact h
            have HXL : Hid (1 ≤ (cutC ((L.drop a).take bs)).length) := by show _ ≤ _; rw [cutC_len, hxl]; have := HB20.out; omega
            have HYL : Hid (1 ≤ (cutC (L.drop m)).length) := by show _ ≤ _; rw [cutC_len, hyl]; omega
            have HME : Hid (m = a + (cutC ((L.drop a).take bs)).length) := by show m = _; rw [cutC_len, hxl]; exact hm
            have HBE : Hid (n = m + (cutC (L.drop m)).length) := by show n = _; rw [cutC_len, hyl]; omega
            clear hsp hxl hyl hb hm hbm hbn hmn
            go_wp2_with fail
            refine (symMerge base g n c hn _ Zs (cutC ((L.drop a).take bs)) (cutC (L.drop m)) [] a m n _ (Nat.le_refl _) HO6.out (cutC_sorted _) (cutC_sorted _) HXL.out HYL.out HZ.out.symm HME.out HBE.out).mono ?_
            rintro e w1 ⟨rfl, hO7, hG7⟩
            have HO7 : Hid (OwnE w1 base g n c (chS d L)) := by show OwnE _ _ _ _ _ _; rw [HFD.out, ← HMG.out]; rw [List.append_nil] at hO7; exact hO7
            have HG7 : Hid (w.grownBy w1 (some g)) := grown_trans HG5.out hG7
            clear hO7 hG7
            go_wp2
            go_roundw
            case rel => exact ⟨d, rfl, by have := HDB.out; have := HB20.out; omega, by have := HDB.out; have := HBN.out; omega, HO7.out, HG7.out⟩
            case measure => have := HDB.out; have := HB20.out; have := HBN.out; simp [intOf]; omega
          · have hmI : ¬ (m : Int) < (n : Int) := by omega
            have HO7 : Hid (OwnE wr base g n c (chS d L)) := by
              show OwnE _ _ _ _ _ _
              have h := HO5.out
              rw [chS_few (by have := HLN.out; rw [List.length_drop]; omega), ← HFD.out] at h
              exact h
            clear hb hm hbm hbn hmn HO5
            go_wp2
            go_roundw
            case rel => exact ⟨d, rfl, by have := HDB.out; have := HB20.out; omega, by have := HDB.out; have := HBN.out; omega, HO7.out, HG5.out⟩
            case measure => have := HDB.out; have := HB20.out; have := HBN.out; simp [intOf]; omega
      · have hbsI : ¬ (bs : Int) < (n : Int) := by omega
        have HD : Hid (OwnE wo base g n c (cutC L)) := by have := HO4.out; rw [chS_few (by rw [HLN.out]; omega)] at this; exact this
        clear HO4
        go_wp2
        go_end0
        exact ⟨rfl, HD.out, HG4.out⟩
end Go.Proofs.Ythhiahjafhkbbaa

namespace Go.Proofs.Ythhiahjafhkbbaa
open Go.RowKit

attribute [local go_sem] Oper.semAt_some

theorem OwnO.row {w : World} {base : Nat} {a : Option Addr} {n c : Nat} {L : List EntD} (h : OwnO w base a n c L) : w.ownsRow base 54 5 (.slice a n c) n (flatE L) := by
  cases a with
  | none =>
    obtain ⟨rfl, rfl, rfl⟩ := h.nil rfl
    exact ⟨rfl, Or.inl ⟨rfl, rfl⟩⟩
  | some x =>
    obtain ⟨g, rfl, hO⟩ := h.own x rfl
    exact hO.owns
theorem ents_none (w : World) : EntsAt w none 0 0 [] := ⟨rfl, Nat.le_refl _, Nat.zero_le _, (fun e h => by cases h), (fun _ => rfl), (fun x e => by cases e), (fun x e => by cases e)⟩

set_option maxRecDepth 100000 in
set_option maxHeartbeats 1000000 in
theorem insNil (fv : Value) (w : World) : Calls Try.prog 98 #[.slice none 0 0, .int .i64 0, .int .i64 0, fv] w fun e w' => e = .returned (.tuple #[]) ∧ w' = w := by
  go_enter Try.func98, Try.ntmps98
  go_wp2
  go_loopw [8] (fun vi wr => vi = .int .i64 1 ∧ wr = w) (fun _ _ => 0)
  case atStart => exact ⟨rfl, rfl⟩
  case round =>
    obtain ⟨rfl, rfl⟩ := hrel
    go_wp2
    go_end0
    exact ⟨rfl, rfl⟩

set_option maxRecDepth 100000 in
set_option maxHeartbeats 1000000 in
theorem stableNil (fv : Value) (w : World) : Calls Try.prog 79 #[.slice none 0 0, .int .i64 0, fv] w fun e w' => e = .returned (.tuple #[]) ∧ w' = w := by
  go_enter Try.func79, Try.ntmps79
  go_wp2
  go_loopw [7, 8] (fun va vb wr => va = .int .i64 0 ∧ vb = .int .i64 20 ∧ wr = w) (fun _ _ _ => 0)
  case atStart => exact ⟨rfl, rfl, rfl⟩
  case round =>
    obtain ⟨rfl, rfl, rfl⟩ := hrel
    go_wp2_with fail
    refine (insNil fv _).mono ?_
    rintro e w1 ⟨rfl, rfl⟩
    go_wp2
    go_loopw [6] (fun va wq => va = .int .i64 20 ∧ wq = w1) (fun _ _ => 0)
    case atStart => exact ⟨rfl, rfl⟩
    case round =>
      obtain ⟨rfl, rfl⟩ := hrel
      go_wp2
      go_end0
      exact ⟨rfl, rfl⟩

/-- What a sort of a row of the call's own leaves. -/
def SortedO (F : List EntD) (a : Option Addr) (n c base : Nat) (w : World) (e : Ending) (w' : World) : Prop :=
  e = .returned (.tuple #[]) ∧ EntsAt w' a n c (cutC F) ∧ (∀ B, B ≤ base → B ≤ w.heap.size → Below B w w')
theorem below_grownBy {w w' : World} {g B : Nat} (h : w.grownBy w' (some g)) (hB : B ≤ w.heap.size) (hg : B ≤ g) : Below B w w' :=
  (Below.refl _ _).grown h hB (fun k e => by cases e; exact hg)

set_option maxRecDepth 100000 in
set_option maxHeartbeats 1000000 in
theorem sortStable (a : Option Addr) (n c base : Nat) (F : List EntD) (w : World) (hO : OwnO w base a n c F) (hn : n ≤ 1048576) :
    Calls Try.prog 51 #[.slice a n c, .func (.func 52) #[] #[]] w (SortedO F a n c base w) := by
  cases a with
  | none =>
    obtain ⟨rfl, rfl, rfl⟩ := hO.nil rfl
    clear hO
    go_enter Try.func51, Try.ntmps51
    go_wp2_with fail
    refine (stableNil _ _).mono ?_
    rintro e w1 ⟨rfl, rfl⟩
    go_wp2
    go_end0
    exact ⟨rfl, ents_none _, fun B _ _ => Below.refl _ _⟩
  | some x =>
    obtain ⟨g, rfl, hE⟩ := hO.own x rfl
    have HE : Hid (OwnE w base g n c F) := hE
    clear hO hE
    go_enter Try.func51, Try.ntmps51
    go_wp2_with fail
    refine (stableAll base g n c F _ HE.out hn).mono ?_
    rintro e w1 ⟨rfl, hE1, hG1⟩
    have HE1 : Hid (EntsAt w1 (some ⟨g, 0, none⟩) n c (cutC F)) := hE1.entsAt
    have HG1 : Hid (w.grownBy w1 (some g)) := hG1
    clear hE1 hG1
    go_wp2
    go_end0
    exact ⟨rfl, HE1.out, fun B hB hw => below_grownBy HG1.out hw (Nat.le_trans hB HE.out.lt.1)⟩

/-- What lies where while an entry is done. -/
structure RndC (W wi : World) (E C : Nat) (s t : ByteArray) (q d n : Int) (v0 v1 v2 : Value) (a' : Option Addr) (n' c' : Nat) (D : List EntD) : Prop where
  low : Below W.heap.size W wi
  be : Box5 wi E (.string s) (.int .i64 q) (.int .i64 d) (.string t) (.int .i64 n)
  bc : Box3 wi C v0 v1 v2
  en : EntsAt wi a' n' c' D
theorem RndC.below {W wi wj : World} {E C : Nat} {s t : ByteArray} {q d n : Int} {v0 v1 v2 : Value} {a' : Option Addr} {n' c' : Nat} {D : List EntD} (h : RndC W wi E C s t q d n v0 v1 v2 a' n' c' D) (hb : Below wi.heap.size wi wj) : RndC W wj E C s t q d n v0 v1 v2 a' n' c' D :=
  ⟨h.low.trans (hb.mono h.low.size), h.be.below hb, h.bc.below hb, h.en.keep hb⟩
theorem RndC.set {W wi : World} {E C : Nat} {s t : ByteArray} {q d n : Int} {v0 v1 v2 : Value} {a' : Option Addr} {n' c' : Nat} {D : List EntD} (h : RndC W wi E C s t q d n v0 v1 v2 a' n' c' D) (hC : W.heap.size ≤ C) (hE : E ≠ C) (hA : ∀ x, a' = some x → 0 < n' → x.block ≠ C) (u0 u1 u2 : Value) :
    RndC W (((wi.setCell ⟨C, 0, none⟩ u0).setCell ⟨C, 1, none⟩ u1).setCell ⟨C, 2, none⟩ u2) E C s t q d n u0 u1 u2 a' n' c' D :=
  ⟨((h.low.setCell (p := ⟨C, 0, none⟩) hC _).setCell (p := ⟨C, 1, none⟩) hC _).setCell (p := ⟨C, 2, none⟩) hC _, ((h.be.other hE 0 _).other hE 1 _).other hE 2 _, h.bc.setAll _ _ _, ((h.en.setCell ⟨C, 0, none⟩ _ hA).setCell ⟨C, 1, none⟩ _ hA).setCell ⟨C, 2, none⟩ _ hA⟩
theorem doC_size {c : CellD} {e : EntD} {N : Nat} (h : c.2.1.size ≤ N) (h' : e.2.2.2.1.size ≤ N) : (doC c e).2.1.size ≤ N := cellN_size h h'

theorem foldC_size {N : Nat} : ∀ (D : List EntD) (c : CellD), c.2.1.size ≤ N → (∀ e ∈ D, e.2.2.2.1.size ≤ N) → (D.foldl doC c).2.1.size ≤ N
  | [], _, h, _ => h
  | e :: r, c, h, hD => foldC_size r (doC c e) (doC_size h (hD e List.mem_cons_self)) (fun x hx => hD x (List.mem_cons_of_mem _ hx))
theorem cellL_size {L : List EntD} {key : ByteArray} {seq : Int} {N : Nat} (h : ∀ e ∈ L, e.2.2.2.1.size ≤ N) : (cellL L key seq).2.1.size ≤ N :=
  foldC_size _ _ (Nat.zero_le _) (fun e he => h e (find_mem (cutC_mem.1 he)))

set_option maxRecDepth 100000 in
set_option maxHeartbeats 8000000 in
theorem implCellAll (a : Option Addr) (len cap : Nat) (L : List EntD) (key : ByteArray) (seq : Int) (w : World) (hL : EntsAt w a len cap L) (hlen : len ≤ 1048576) (htx : ∀ e ∈ L, e.2.2.2.1.size ≤ 281474976710656) :
    Calls Try.prog 22 #[.slice a len cap, .string key, .int .i64 seq] w fun e w' => e = .returned (cellV (cellL L key seq)) ∧ Below w.heap.size w w' := by
  obtain ⟨F, hF⟩ : ∃ F, F = findL L key seq := ⟨_, rfl⟩
  have HFF : Hid (F = findL L key seq) := hF
  have HLEN : Hid (L.length = len) := hL.length
  have HENTS : Hid (∀ l ∈ L, EntW l) := hL.ents
  have HTX : Hid (∀ e ∈ L, e.2.2.2.1.size ≤ 281474976710656) := htx
  have HFEW : Hid (F.length ≤ 1048576) := by rw [hF]; exact Nat.le_trans (find_len L key seq) (by rw [hL.length]; exact hlen)
  have hbl := hL.room
  have hbc := hL.big
  unfold maxLen at hbc
  have HL : Hid (EntsAt w a len cap L) := hL
  obtain ⟨RC, hRC⟩ : ∃ RC, RC = cellL L key seq := ⟨_, rfl⟩
  have HRC : Hid (RC = foldC (cutC F)) := by rw [hRC, hF]; rfl
  rw [← hRC]
  clear hL hF htx hRC
  obtain ⟨i0, hi, hz0, hz1, hz2⟩ := info_parts Try.infoEnt
  obtain ⟨X, hX⟩ : ∃ X, X = w.heap.size := ⟨_, rfl⟩
  obtain ⟨W, hW⟩ : ∃ W, W = w.alloc (.cells #[.bool false, .string ⟨#[]⟩, .int .i64 0] 35) := ⟨_, rfl⟩
  have HBX : Hid (Box3 W X (.bool false) (.string ⟨#[]⟩) (.int .i64 0)) := by rw [hW, hX]; exact Box3.new _ _ _ _ _
  have HKW : Hid (Below w.heap.size w W) := by rw [hW]; exact (Below.refl _ _).alloc (Nat.le_refl _) _
  have HXW : Hid (X = w.heap.size) := hX
  have HWX : Hid (W.heap.size = X + 1) := by show W.heap.size = X + 1; rw [hW, hX]; simp
  have HLW : Hid (EntsAt W a len cap L) := HL.out.keep HKW.out
  go_enter Try.func22, Try.ntmps22
  go_wp2
  rw [← hW, ← hX]
  clear hW hX
  go_loopw [7, 15] (fun dv iv wr => ∃ (k n' c' : Nat) (a' : Option Addr), k ≤ len ∧ n' ≤ k ∧ iv = .int .i64 k ∧ dv = .slice a' n' c' ∧ OwnO wr W.heap.size a' n' c' (findL (L.take k) key seq) ∧ Below W.heap.size W wr) (fun _ iv _ => len - (intOf iv).toNat)
  case atStart => exact ⟨0, 0, 0, none, Nat.zero_le _, Nat.zero_le _, rfl, rfl, OwnO.none _ _, Below.refl _ _⟩
  case round =>
    obtain ⟨k, n', c', a', hk, hnk, rfl, rfl, hO, hb⟩ := hrel
    have HO : Hid (OwnO wr W.heap.size a' n' c' (findL (L.take k) key seq)) := hO
    clear hO
    by_cases hlt : k < len
    · obtain ⟨b, off, rfl, hbb⟩ := HLW.out.form (by omega)
      obtain ⟨s, q, d, t, n, hg, hlw, g0, g1, g2, g3, g4⟩ := HLW.out.ent hb hbb k hlt
      have HG : Hid (L[k]? = some (s, q, d, t, n)) := hg
      clear hg hlw
      have hbr : b < wr.heap.size := Nat.lt_of_lt_of_le hbb hb.size
      by_cases hks : s = key
      · subst hks
        by_cases hq : q ≤ seq
        · have HF : Hid (findL (L.take (k + 1)) s seq = findL (L.take k) s seq ++ [(s, q, d, t, n)]) := find_snoc_yes HG.out rfl hq
          go_wp2_with (at_builtin; refine wpList_append_own _ rfl _ _ 25 rfl W.heap.size 54 i0 _ 5 56 Try.underlying25 hi hz0 hz1 hz2 rfl (by decide) _ _ _ rfl ((HO.out.row.alloc _).alloc _) ⟨wr.heap.size + 1, 0, none⟩ 1 1 (flatE [(s, q, d, t, n)]) rfl rfl ?c1 (flatE_one _) ?c3 ?c4 ?c5 ?_)
          case c1 =>
            have he := ents_one (wr.alloc (.cells #[.string s, .int .i64 q, .int .i64 d, .string t, .int .i64 n] 54)) s t q d n (HENTS.out _ (List.mem_of_getElem? HG.out))
            simp only [World.size_alloc] at he
            exact ents_news he
          case c3 => unfold maxLen; omega
          case c4 => omega
          case c5 => have := hb.size; simp; omega
          intro v' w2 hown' hgrow hnil
          obtain ⟨g2, cap2, rfl⟩ : ∃ g cap, v' = .slice (some ⟨g, 0, none⟩) (n' + 1) cap := by
            rcases hown'.2 with ⟨hv, h0⟩ | ⟨g, cap, cur, hv, _⟩
            · omega
            · exact ⟨g, cap, hv⟩
          have hb2 : Below W.heap.size W w2 := ((hb.alloc hb.size _).alloc (by have := hb.size; simp; omega) _).grown hgrow (by have := hb.size; simp; omega) (fun q hq => (HO.out.row.lt q hq).1)
          have hO2 : OwnO w2 W.heap.size (some ⟨g2, 0, none⟩) (n' + 1) cap2 (findL (L.take (k + 1)) s seq) := by
            refine OwnO.some ⟨?_, ?_, fun l hl => HENTS.out l (List.mem_of_mem_take (find_mem hl))⟩
            · rw [HF.out, flatE_append]; exact hown'
            · rw [HF.out, List.length_append, HO.out.len]; rfl
          have HO2 : Hid (OwnO w2 W.heap.size (some ⟨g2, 0, none⟩) (n' + 1) cap2 (findL (L.take (k + 1)) s seq)) := hO2
          clear hown' hgrow hnil hO2
          go_wp2
          go_roundw
          case rel => exact ⟨k + 1, n' + 1, cap2, _, by omega, by omega, by go_num, rfl, HO2.out, hb2⟩
          case measure => simp [intOf]; omega
        · have HF : Hid (findL (L.take (k + 1)) s seq = findL (L.take k) s seq) := find_snoc_no HG.out (by simp; omega)
          go_wp2
          go_roundw
          case rel => exact ⟨k + 1, n', c', a', by omega, by omega, by go_num, rfl, by rw [HF.out]; exact HO.out.below ((Below.refl _ _).alloc (Nat.le_refl _) _), hb.alloc hb.size _⟩
          case measure => simp [intOf]; omega
      · have HF : Hid (findL (L.take (k + 1)) key seq = findL (L.take k) key seq) := find_snoc_no HG.out (fun h => hks h.1)
        have hne : ¬ s.toList = key.toList := by
          rw [ByteArray.toList_eq, ByteArray.toList_eq]
          intro h
          exact hks (ByteArray.ext (Array.toList_inj.1 h))
        have hne' : (s.toList == key.toList) = false := by simpa using hne
        clear hks
        go_wp2
        go_roundw
        case rel => exact ⟨k + 1, n', c', a', by omega, by omega, by go_num, rfl, by rw [HF.out]; exact HO.out.below ((Below.refl _ _).alloc (Nat.le_refl _) _), hb.alloc hb.size _⟩
        case measure => simp [intOf]; omega
    · have HO1 : Hid (OwnO wr W.heap.size a' n' c' F) := by
        have := HO.out
        rw [List.take_of_length_le (by rw [HLEN.out]; omega), ← HFF.out] at this
        exact this
      have hn20 : n' ≤ 1048576 := by rw [← HO1.out.len]; exact HFEW.out
      have HFTX : Hid (∀ e ∈ cutC F, e.2.2.2.1.size ≤ 281474976710656) := fun e he => HTX.out e (find_mem (by rw [← HFF.out]; exact cutC_mem.1 he))
      clear HO
      go_wp2_with fail
      refine (sortStable a' n' c' W.heap.size F _ HO1.out hn20).mono ?_
      rintro e w2 ⟨rfl, hE2, hB2⟩
      have hb2 : Below W.heap.size W w2 := hb.trans (hB2 _ (Nat.le_refl _) hb.size)
      obtain ⟨C, hC⟩ : ∃ C, C = w2.heap.size := ⟨_, rfl⟩
      obtain ⟨w3, hw3⟩ : ∃ w3, w3 = w2.alloc (.cells #[.bool false, .string ⟨#[]⟩, .int .i64 0] 35) := ⟨_, rfl⟩
      have k3 : Below w2.heap.size w2 w3 := by rw [hw3]; exact (Below.refl _ _).alloc (Nat.le_refl _) _
      have HBC : Hid (Box3 w3 C (.bool false) (.string ⟨#[]⟩) (.int .i64 0)) := by rw [hw3, hC]; exact Box3.new _ _ _ _ _
      have HE3 : Hid (EntsAt w3 a' n' c' (cutC F)) := hE2.keep k3
      have HB3 : Hid (Below W.heap.size W w3) := hb2.trans (k3.mono hb2.size)
      have hCW : Hid (W.heap.size ≤ C) := by rw [hC]; exact hb2.size
      have HNE : Hid (∀ x, a' = some x → 0 < n' → x.block ≠ C) := fun x hx hp => by have := (hE2.lies x hx hp).1; rw [hC]; omega
      have HLD : Hid ((cutC F).length = n') := hE2.length
      have hroom := hE2.room
      have hbig := hE2.big
      unfold maxLen at hbig
      go_wp2
      rw [← hw3, ← hC]
      clear hw3 hC k3 hE2 hB2 hb2 hb HO1
      go_loopw [39] (fun iv wq => ∃ (k : Nat) (cc : CellD), k ≤ n' ∧ iv = .int .i64 k ∧ cc = foldC ((cutC F).take k) ∧ Below W.heap.size W wq ∧ Box3 wq C (.bool cc.1) (.string cc.2.1) (.int .i64 cc.2.2) ∧ EntsAt wq a' n' c' (cutC F) ∧ cc.2.1.size ≤ 281474976710656) (fun iv _ => n' - (intOf iv).toNat)
      case atStart => exact ⟨0, (false, ⟨#[]⟩, 0), Nat.zero_le _, rfl, rfl, HB3.out, HBC.out, HE3.out, Nat.zero_le _⟩
      case round =>
      obtain ⟨k, cc, hk, rfl, hcc, hb, hbx, hen, hcs⟩ := hrel
      clear HB3 HBC HE3
      have HEN : Hid (EntsAt wr a' n' c' (cutC F)) := hen
      have HCC : Hid (cc = foldC ((cutC F).take k)) := hcc
      have HBX3 : Hid (Box3 wr C (.bool cc.1) (.string cc.2.1) (.int .i64 cc.2.2)) := hbx
      have HCS : Hid (cc.2.1.size ≤ 281474976710656) := hcs
      clear hen hcc hbx hcs
      by_cases hlt2 : k < n'
      · obtain ⟨b, off, rfl, hbb⟩ := HEN.out.form (by omega)
        obtain ⟨s, q, d, t, n, hg, hlw, g0, g1, g2, g3, g4⟩ := HEN.out.ent (Below.refl wr.heap.size wr) hbb k hlt2
        have HG : Hid ((cutC F)[k]? = some (s, q, d, t, n)) := hg
        clear hg hlw
        obtain ⟨T, G, hkind, hm, eg, hdo⟩ := kind_any cc.1 cc.2.1 s t cc.2.2 q d n
        obtain ⟨dc, hdc⟩ : ∃ dc, dc = cellN cc.1 cc.2.1 cc.2.2 d t n := ⟨_, rfl⟩
        rw [← hdc] at hdo
        have HDC : Hid (dc = doC (foldC ((cutC F).take k)) (s, q, d, t, n)) := by rw [hdc, ← HCC.out]; rfl
        have HDS : Hid (dc.2.1.size ≤ 281474976710656) := by rw [hdc]; exact cellN_size HCS.out (HFTX.out _ (List.mem_of_getElem? HG.out))
        clear hdc
        go_upto_region 13 with fail
        obtain ⟨E, hE⟩ : ∃ E, E = wr.heap.size := ⟨_, rfl⟩
        obtain ⟨wq, hwq⟩ : ∃ wq, wq = wr.alloc (.cells #[.string s, .int .i64 q, .int .i64 d, .string t, .int .i64 n] 54) := ⟨_, rfl⟩
        have kq : Below wr.heap.size wr wq := by rw [hwq]; exact (Below.refl _ _).alloc (Nat.le_refl _) _
        have hEC : Hid (E ≠ C) := by have := HBX3.out.lt; show E ≠ C; omega
        have k0 : RndC W wq.drew E C s t q d n (.bool cc.1) (.string cc.2.1) (.int .i64 cc.2.2) (some ⟨b, off, none⟩) n' c' (cutC F) :=
          RndC.below ⟨hb.trans (kq.mono hb.size), by rw [hwq, hE]; exact Box5.new _ _ _ _ _ _ _, HBX3.out.below kq, HEN.out.keep kq⟩ (Below.refl _ _).drew
        rw [← hwq, ← hE]
        clear hwq hE kq g0 g1 g2 g3 g4 HEN HBX3 hb hbb
        refine wp_region_held_drew (S := (fun w' => w'.cell? ⟨E, 0, none⟩ = some (.string s) ∧ w'.cell? ⟨E, 1, none⟩ = some (.int .i64 q) ∧ w'.cell? ⟨E, 2, none⟩ = some (.int .i64 d) ∧ w'.cell? ⟨E, 3, none⟩ = some (.string t) ∧ w'.cell? ⟨E, 4, none⟩ = some (.int .i64 n) ∧ E < w'.heap.size)) (by kernel_rfl) (⟨k0.be.c0, k0.be.c1, k0.be.c2, k0.be.c3, k0.be.c4, k0.be.lt⟩) (fun hHeld => ?_)
        generalize wq.drew = wd at k0 hHeld ⊢
        refine wpAnyH_takeL (i := 0) (v := ?_) rfl (by kernel_rfl) (by kernel_rfl) (by kernel_rfl) (fun _ _ _ h => h) (Or.inl ⟨by rfl, ?_⟩) hHeld ?_
        rotate_left
        · (intro w hSw; (try dsimp only at hSw); go_simp; try with_reducible rfl)
        try go_frame
        refine wpAnyH_takeL (i := 3) (v := ?_) rfl (by kernel_rfl) (by kernel_rfl) (by kernel_rfl) (fun _ _ _ h => h) (Or.inl ⟨by rfl, ?_⟩) hHeld ?_
        rotate_left
        · (intro w hSw; (try dsimp only at hSw); go_simp; try with_reducible rfl)
        try go_frame
        refine wpAnyH_ready (rs := [1, 2]) (by kernel_rfl) (by simp) ?_
        refine consL rfl (fun K hK => ?_) (consL rfl (fun K hK => ?_) AllReadyH.nil)
        · go_simp
          refine (hkind _).mono ?_
          rintro e wv1 ⟨rfl, bb1⟩
          have kk1 := k0.below bb1
          go_wp2_with fail
          refine hK.out _ _ (⟨kk1.be.c0, kk1.be.c1, kk1.be.c2, kk1.be.c3, kk1.be.c4, kk1.be.lt⟩) (fun hHeld => ?_)
          clear hK K
          try go_frame
          refine wpAnyH_ready (rs := [2]) (by kernel_rfl) (by simp) ?_
          refine consL rfl (fun K hK => ?_) AllReadyH.nil
          have c0 := kk1.bc.c0
          have c1 := kk1.bc.c1
          have c2 := kk1.bc.c2
          have cl := kk1.bc.lt
          go_simp
          clear c0 c1 c2 cl
          refine hK.out _ _ (⟨kk1.be.c0, kk1.be.c1, kk1.be.c2, kk1.be.c3, kk1.be.c4, kk1.be.lt⟩) (fun hHeld => ?_)
          clear hK K
          try go_frame
          refine wpAnyH_ready (rs := [4]) (by kernel_rfl) (by simp) ?_
          refine consL rfl (fun K hK => ?_) AllReadyH.nil
          go_simp
          refine (hdo _).mono ?_
          rintro e wv2 ⟨rfl, bb2⟩
          have kk2 := kk1.below bb2
          unfold cellV
          go_wp2_with fail
          refine hK.out _ _ (⟨kk2.be.c0, kk2.be.c1, kk2.be.c2, kk2.be.c3, kk2.be.c4, kk2.be.lt⟩) (fun hHeld => ?_)
          clear hK K
          try go_frame
          refine wpAnyH_ready (rs := [5]) (by kernel_rfl) (by simp) ?_
          refine consL rfl (fun K hK => ?_) AllReadyH.nil
          have c0 := kk2.bc.c0
          have c1 := kk2.bc.c1
          have c2 := kk2.bc.c2
          have cl := kk2.bc.lt
          have f0 := kk2.bc.fr 0
          have f1 := kk2.bc.fr 1
          have f2 := kk2.bc.fr 2
          go_simp
          have kk3 := kk2.set hCW.out hEC.out HNE.out (.bool dc.1) (.string dc.2.1) (.int .i64 dc.2.2)
          clear c0 c1 c2 cl f0 f1 f2
          refine hK.out _ _ (⟨kk3.be.c0, kk3.be.c1, kk3.be.c2, kk3.be.c3, kk3.be.c4, kk3.be.lt⟩) (fun hHeld => ?_)
          clear hK K
          try go_frame
          refine wpAnyH_done (by kernel_rfl) ?_ _
          have HK : Hid (RndC W _ E C s t q d n (.bool dc.1) (.string dc.2.1) (.int .i64 dc.2.2) (some ⟨b, off, none⟩) n' c' (cutC F)) := kk3
          clear hkind hm eg hdo
          go_wp2
          go_roundw
          case rel => exact ⟨k + 1, dc, by omega, by go_num, HDC.out.trans (foldC_take HG.out).symm, HK.out.low, HK.out.bc, HK.out.en, HDS.out⟩
          case measure => simp [intOf]; omega
        · have c0 := k0.bc.c0
          have c1 := k0.bc.c1
          have c2 := k0.bc.c2
          have cl := k0.bc.lt
          go_simp
          clear c0 c1 c2 cl
          refine hK.out _ _ (⟨k0.be.c0, k0.be.c1, k0.be.c2, k0.be.c3, k0.be.c4, k0.be.lt⟩) (fun hHeld => ?_)
          clear hK K
          try go_frame
          refine wpAnyH_ready (rs := [1]) (by kernel_rfl) (by simp) ?_
          refine consL rfl (fun K hK => ?_) AllReadyH.nil
          go_simp
          refine (hkind _).mono ?_
          rintro e wv4 ⟨rfl, bb4⟩
          have kk4 := k0.below bb4
          go_wp2_with fail
          refine hK.out _ _ (⟨kk4.be.c0, kk4.be.c1, kk4.be.c2, kk4.be.c3, kk4.be.c4, kk4.be.lt⟩) (fun hHeld => ?_)
          clear hK K
          try go_frame
          refine wpAnyH_ready (rs := [4]) (by kernel_rfl) (by simp) ?_
          refine consL rfl (fun K hK => ?_) AllReadyH.nil
          go_simp
          refine (hdo _).mono ?_
          rintro e wv5 ⟨rfl, bb5⟩
          have kk5 := kk4.below bb5
          unfold cellV
          go_wp2_with fail
          refine hK.out _ _ (⟨kk5.be.c0, kk5.be.c1, kk5.be.c2, kk5.be.c3, kk5.be.c4, kk5.be.lt⟩) (fun hHeld => ?_)
          clear hK K
          try go_frame
          refine wpAnyH_ready (rs := [5]) (by kernel_rfl) (by simp) ?_
          refine consL rfl (fun K hK => ?_) AllReadyH.nil
          have c0 := kk5.bc.c0
          have c1 := kk5.bc.c1
          have c2 := kk5.bc.c2
          have cl := kk5.bc.lt
          have f0 := kk5.bc.fr 0
          have f1 := kk5.bc.fr 1
          have f2 := kk5.bc.fr 2
          go_simp
          have kk6 := kk5.set hCW.out hEC.out HNE.out (.bool dc.1) (.string dc.2.1) (.int .i64 dc.2.2)
          clear c0 c1 c2 cl f0 f1 f2
          refine hK.out _ _ (⟨kk6.be.c0, kk6.be.c1, kk6.be.c2, kk6.be.c3, kk6.be.c4, kk6.be.lt⟩) (fun hHeld => ?_)
          clear hK K
          try go_frame
          refine wpAnyH_done (by kernel_rfl) ?_ _
          have HK : Hid (RndC W _ E C s t q d n (.bool dc.1) (.string dc.2.1) (.int .i64 dc.2.2) (some ⟨b, off, none⟩) n' c' (cutC F)) := kk6
          clear hkind hm eg hdo
          go_wp2
          go_roundw
          case rel => exact ⟨k + 1, dc, by omega, by go_num, HDC.out.trans (foldC_take HG.out).symm, HK.out.low, HK.out.bc, HK.out.en, HDS.out⟩
          case measure => simp [intOf]; omega
      · have HKN : Hid (RC = cc) := by show RC = cc; rw [HRC.out, HCC.out, List.take_of_length_le (by rw [HLD.out]; omega)]
        have c0 := HBX3.out.c0
        have c1 := HBX3.out.c1
        have c2 := HBX3.out.c2
        have cl := HBX3.out.lt
        obtain ⟨cb, ct, cn⟩ := cc
        simp only at c0 c1 c2
        go_wp2_with fail
        refine (cloneCell_any (cb, ct, cn) _ HCS.out).mono ?_
        rintro e w4 ⟨rfl, hb4⟩
        have HBX4 : Box3 w4 X (.bool false) (.string ⟨#[]⟩) (.int .i64 0) := (HBX.out.below hb).below hb4
        have x0 := HBX4.c0
        have x1 := HBX4.c1
        have x2 := HBX4.c2
        have xl := HBX4.lt
        have f0 := HBX4.fr 0
        have f1 := HBX4.fr 1
        have f2 := HBX4.fr 2
        have K4 : Hid (Below w.heap.size w w4) := HKW.out.trans ((hb.trans (hb4.mono hb.size)).mono HKW.out.size)
        have hXw : Hid (w.heap.size ≤ X) := by show w.heap.size ≤ X; rw [HXW.out]; exact Nat.le_refl _
        clear HBX4 hb4 c0 c1 c2 cl hb
        unfold cellV
        simp only
        go_wp2
        refine bodyPost_ret (v := .agg #[.bool cb, .string ct, .int .i64 cn]) (by simp [results, Try.results22, go_sem, x0, x1, x2]) rfl ⟨by rw [HKN.out]; rfl, ?_⟩
        exact ((K4.out.setCell (p := ⟨X, 0, none⟩) hXw.out _).setCell (p := ⟨X, 1, none⟩) hXw.out _).setCell (p := ⟨X, 2, none⟩) hXw.out _
end Go.Proofs.Ythhiahjafhkbbaa

namespace Go.Proofs.Ythhiahjafhkbbaa
open Go.RowKit

/-! Keys and times of what is left. -/
def kq (e : EntD) : ByteArray × Int := (e.1, e.2.1)
theorem cl_sub (b : Bool) : ∀ c : List EntD, ((clS b c).map kq).Sublist (c.map kq)
  | [] => List.Sublist.refl _
  | e :: R => by
    show ((classG b e.1 e.2.1 (e :: R)).map kq).Sublist _
    unfold classG
    by_cases h1 : sumOkB (joinG true 0 (e :: R)).2.2 = true
    · rw [if_pos h1]
      by_cases h2 : b = true ∧ (joinG true 0 (e :: R)).1 = 2
      · rw [if_pos h2]; exact List.nil_sublist _
      · rw [if_neg h2]
        simp only [List.map_cons, List.map_nil, kq]
        exact List.Sublist.cons_cons _ (List.nil_sublist _)
    · rw [if_neg h1]; exact List.Sublist.refl _
theorem left_sub (bottom : Bool) : ∀ Cs : List (List EntD), ((Cs.foldr (Sq.stepD clS) (bottom, [])).2.map kq).Sublist (Cs.flatten.map kq)
  | [] => List.Sublist.refl _
  | c :: Cs => by
    have ih := left_sub bottom Cs
    rw [List.foldr_cons, List.flatten_cons, List.map_append]
    generalize Cs.foldr (Sq.stepD clS) (bottom, []) = st at ih ⊢
    show ((clS st.1 c ++ st.2).map kq).Sublist _
    rw [List.map_append]
    exact List.Sublist.append (cl_sub _ c) ih
theorem flat_sub (S : List Int) (bottom : Bool) : ∀ Gs : List (List EntD), ((Gs.flatMap (leftS S bottom)).map kq).Sublist (Gs.flatten.map kq)
  | [] => List.Sublist.refl _
  | G :: Gs => by
    have ih := flat_sub S bottom Gs
    have h := left_sub bottom (Sq.parts (cutB S) G)
    rw [Sq.parts_flat] at h
    rw [List.flatMap_cons, List.flatten_cons, List.map_append, List.map_append]
    exact List.Sublist.append h ih
theorem squash_pair {L : List EntD} (h : L.Pairwise (fun a b => lessB a.1 a.2.1 b.1 b.2.1 = true)) (S : List Int) (bottom : Bool) : (squashL L S bottom).Pairwise (fun a b => lessB a.1 a.2.1 b.1 b.2.1 = true) := by
  unfold squashL
  by_cases hr : rightB L = true
  · rw [if_pos hr]
    have hs := flat_sub S bottom (Sq.parts keyEq L)
    rw [Sq.parts_flat] at hs
    have h1 : (L.map kq).Pairwise (fun a b => lessB a.1 a.2 b.1 b.2 = true) := List.pairwise_map.2 h
    exact List.pairwise_map.1 (h1.sublist hs)
  · rw [if_neg hr]; exact List.Pairwise.nil
theorem squash_small {L : List EntD} (hr : rightB L = true) (S : List Int) (bottom : Bool) : ∀ e ∈ squashL L S bottom, SmE e := by
  unfold squashL
  rw [if_pos hr]
  intro e he
  obtain ⟨G, hG, heG⟩ := List.mem_flatMap.1 he
  have key : ∀ Cs : List (List EntD), (∀ c ∈ Cs, ∀ e ∈ c, SmE e) → ∀ e ∈ (Cs.foldr (Sq.stepD clS) (bottom, [])).2, SmE e := by
    intro Cs
    induction Cs with
    | nil => intro _ e he; cases he
    | cons c Cs ih =>
      intro h e he
      have ih' := ih (fun x hx => h x (List.mem_cons_of_mem _ hx))
      rw [List.foldr_cons] at he
      generalize Cs.foldr (Sq.stepD clS) (bottom, []) = st at ih' he
      have he' : e ∈ clS st.1 c ++ st.2 := he
      rcases List.mem_append.1 he' with h1 | h1
      · exact clS_small _ c (h c List.mem_cons_self) e h1
      · exact ih' e h1
  exact key _ (fun c hc e he => right_sm hr e ((part_len _ _ G hG).2 e ((part_len _ _ c hc).2 e he))) e heG
theorem cell_squash {L : List EntD} (hr : rightB L = true) (S : List Int) (bottom : Bool) (key : ByteArray) (t : Int) (ht : t ∈ S ∨ 100000 ≤ t) : cellL (squashL L S bottom) key t = cellL L key t := by
  rw [cell_ev (squash_pair (right_pair hr) S bottom), cell_ev (right_pair hr), squash_tells hr S bottom key t ht]
theorem right_all {L : List EntD} {n : Nat} (hl : L.length = n) (h1 : ∀ e ∈ L, entB e.1 e.2.1 e.2.2.1 e.2.2.2.1 e.2.2.2.2 = true) (h2 : ∀ j, 1 ≤ j → j < n → ∀ x y, L[j - 1]? = some x → L[j]? = some y → lessB x.1 x.2.1 y.1 y.2.1 = true) : rightB L = true := by
  refine right_of (k := n) (fun j hj => ?_) (by omega)
  have hjl : j < L.length := by omega
  have he := List.getElem?_eq_getElem hjl
  match j, hj, hjl, he with
  | 0, _, hjl, he => rw [okAt_zero he]; exact h1 _ (List.getElem_mem hjl)
  | j + 1, hj, hjl, he =>
    have hd := List.getElem?_eq_getElem (l := L) (i := j) (by omega)
    rw [okAt_succ he hd, h1 _ (List.getElem_mem hjl), h2 (j + 1) (by omega) hj _ _ (show L[j + 1 - 1]? = _ from hd) he]
    rfl

/-! Entries above older ones. -/
def upE (e : EntD) : EntD := (e.1, e.2.1 + 100, e.2.2.1, e.2.2.2.1, e.2.2.2.2)
theorem less_up (a b : EntD) : lessB (upE a).1 (upE a).2.1 (upE b).1 (upE b).2.1 = lessB a.1 a.2.1 b.1 b.2.1 := by
  unfold lessB upE
  simp only
  have h : decide (b.2.1 + 100 < a.2.1 + 100) = decide (b.2.1 < a.2.1) := by rw [decide_eq_decide]; omega
  simp only [h]
theorem ent_up {e : EntD} (h : entB e.1 e.2.1 e.2.2.1 e.2.2.2.1 e.2.2.2.2 = true) (hs : e.2.1 ≤ 1000) : entB (upE e).1 (upE e).2.1 (upE e).2.2.1 (upE e).2.2.2.1 (upE e).2.2.2.2 = true := by
  unfold entB upE at *
  simp only [Bool.and_eq_true, decide_eq_true_eq] at h ⊢
  obtain ⟨a, b, c, r⟩ := h
  exact ⟨a, by omega, by omega, r⟩
theorem up_all {L : List EntD} (h : rightB L = true) (hs : ∀ e ∈ L, e.2.1 ≤ 1000) : rightB (L.map upE) = true := by
  refine right_all (n := (L.map upE).length) rfl (fun e he => ?_) (fun j h1 h2 x y hx hy => ?_)
  · obtain ⟨e, he', rfl⟩ := List.mem_map.1 he
    obtain ⟨k, hk⟩ := List.getElem?_of_mem he'
    exact ent_up (right_ent h hk) (hs e he')
  · rw [List.getElem?_map] at hx hy
    cases hx' : L[j - 1]? with
    | none => rw [hx'] at hx; cases hx
    | some x' =>
      cases hy' : L[j]? with
      | none => rw [hy'] at hy; cases hy
      | some y' =>
        rw [hx'] at hx
        rw [hy'] at hy
        cases hx
        cases hy
        rw [less_up]
        exact right_next h hx' (by rw [show j - 1 + 1 = j by omega]; exact hy')
theorem squash_from {L : List EntD} (S : List Int) (bottom : Bool) : ∀ e ∈ squashL L S bottom, ∃ y ∈ L, e.1 = y.1 ∧ e.2.1 = y.2.1 := by
  intro e he
  have hs : ((squashL L S bottom).map kq).Sublist (L.map kq) := by
    unfold squashL
    by_cases hr : rightB L = true
    · rw [if_pos hr]
      have := flat_sub S bottom (Sq.parts keyEq L)
      rwa [Sq.parts_flat] at this
    · rw [if_neg hr]; exact List.nil_sublist _
  obtain ⟨y, hy, h⟩ := List.mem_map.1 (hs.subset (List.mem_map.2 ⟨e, he, rfl⟩))
  unfold kq at h
  simp only [Prod.mk.injEq] at h
  exact ⟨y, hy, h.1.symm, h.2.symm⟩
theorem cell_above {A U : List EntD} (hA : UnT A) (hl : ∀ e ∈ A, e.2.1 ≤ 50) (hu : ∀ e ∈ U, 100 < e.2.1) (hp : U.Pairwise (fun a b => lessB a.1 a.2.1 b.1 b.2.1 = true)) (key : ByteArray) (t : Int) : cellL (A ++ U) key t = ev (findL U key t) (cellL A key t) := by
  have hfp : (findL U key t).Pairwise (fun a b => b.2.1 < a.2.1) := by
    unfold findL
    rw [List.pairwise_filter]
    refine hp.imp ?_
    intro a b hab ha hb
    simp only [Bool.and_eq_true, decide_eq_true_eq] at ha hb
    exact less_time hab (by rw [ha.1, hb.1])
  have hf : findL (A ++ U) key t = findL A key t ++ findL U key t := by unfold findL; rw [List.filter_append]
  have mA : ∀ e ∈ findL A key t, e.2.1 ≤ 50 := fun e he => hl e ((List.mem_filter.1 he).1)
  have mU : ∀ e ∈ findL U key t, 100 < e.2.1 := fun e he => hu e ((List.mem_filter.1 he).1)
  have hun : UnT (findL A key t ++ findL U key t) := by
    unfold UnT
    rw [List.pairwise_append]
    exact ⟨hA.find key t, hfp.imp (fun h => by omega), fun a ha b hb => by have := mA a ha; have := mU b hb; omega⟩
  have h1 : cutC (findL A key t ++ findL U key t) = cutC (findL A key t) ++ (findL U key t).reverse := by
    refine strict_same ((cutC_perm _).trans ((cutC_perm _).symm.append (List.reverse_perm _).symm)) (cutC_strict hun) ?_
    rw [List.pairwise_append]
    refine ⟨cutC_strict (hA.find key t), by rw [List.pairwise_reverse]; exact hfp.imp (fun h => h), fun a ha b hb => ?_⟩
    have := mA a (cutC_mem.1 ha)
    have := mU b (List.mem_reverse.1 hb)
    omega
  unfold cellL
  rw [hf, h1]
  unfold foldC ev
  rw [List.foldl_append, List.foldl_reverse]
/-- Squashed above older ones, not as the lowest, entries tell the same. -/
theorem squash_on {A U : List EntD} (hA : UnT A) (hl : ∀ e ∈ A, e.2.1 ≤ 50) (hu : ∀ e ∈ U, 100 < e.2.1) (hr : rightB U = true) (S : List Int) (key : ByteArray) (t : Int) (ht : t ∈ S ∨ t = 100000 ∨ t ≤ 100) : cellL (A ++ squashL U S false) key t = cellL (A ++ U) key t := by
  have hs : ∀ e ∈ squashL U S false, 100 < e.2.1 := fun e he => by
    obtain ⟨y, hy, _, h2⟩ := squash_from S false e he
    rw [h2]; exact hu y hy
  rw [cell_above hA hl hs (squash_pair (right_pair hr) S false), cell_above hA hl hu (right_pair hr)]
  have low : t ≤ 100 → ∀ V : List EntD, (∀ e ∈ V, 100 < e.2.1) → findL V key t = [] := fun h V hV => List.filter_eq_nil_iff.2 (fun e he => by
    have := hV e he
    simp only [Bool.and_eq_true, decide_eq_true_eq]
    omega)
  rcases ht with ht | ht | ht
  · exact squash_tells_on hr S false key t (.inl ht) _ (fun h => by cases h)
  · exact squash_tells_on hr S false key t (.inr (by omega)) _ (fun h => by cases h)
  · rw [low ht _ hs, low ht _ hu]
theorem up_high {L : List EntD} (h : ∀ e ∈ L, entB e.1 e.2.1 e.2.2.1 e.2.2.2.1 e.2.2.2.2 = true) : ∀ e ∈ L.map upE, 100 < e.2.1 := fun e he => by
  obtain ⟨x, hx, rfl⟩ := List.mem_map.1 he
  have := (entB_seq (h x hx)).1
  show 100 < x.2.1 + 100
  omega

/-- What lies where. -/
structure OnSt (w wi : World) (g n c gs m cs gd nd cd : Nat) (L : List EntD) (S : List Int) (D : List EntD) : Prop where
  all : Below w.heap.size w wi
  ol : OwnE wi w.heap.size g n c L
  os : OwnN wi w.heap.size gs m cs S
  od : OwnE wi w.heap.size gd nd cd D
theorem OnSt.below {w wi wj : World} {g n c gs m cs gd nd cd : Nat} {L : List EntD} {S : List Int} {D : List EntD} (h : OnSt w wi g n c gs m cs gd nd cd L S D) (hb : Below wi.heap.size wi wj) : OnSt w wj g n c gs m cs gd nd cd L S D :=
  ⟨h.all.trans (hb.mono h.all.size), h.ol.below hb, h.os.below hb, h.od.below hb⟩
theorem take_up {L : List EntD} {i : Nat} {e : EntD} (h : L[i]? = some e) : (L.take (i + 1)).map upE = (L.take i).map upE ++ [upE e] := by
  rw [List.take_add_one, h]
  simp
theorem ents_newsO {w : World} {g n c : Nat} {L : List EntD} (h : EntsAt w (some ⟨g, 0, none⟩) n c L) : ∀ j u, (flatE L)[j]? = some u → w.cell? ((⟨g, 0, none⟩ : Addr).add j) = some u := ents_news h
/-- Entries behind entries: a list of the call's own, and another, nil or not. -/
theorem wpList_app_ents {ops : Array Oper} {rest : List Oper} {o : Oper} {a : Act} {w : World} {Q : Exit → Act → World → Prop} (hgd : o.guard = none) (s x : Operand)
    (ho : o.op = .call { callee := .builtin .append, args := #[s, x], argTypes := #[25, 25] })
    (base base' g n c : Nat) (X : List EntD) (hs : a.eval s = .slice (some ⟨g, 0, none⟩) n c) (hO : OwnE w base g n c X) (ax : Option Addr) (m cx : Nat) (M : List EntD) (hx : a.eval x = .slice ax m cx) (hM : OwnO w base' ax m cx M) (hn : n ≤ 1048576) (hm : m ≤ 1048576) (k : Nat) (hk : k = n + m)
    (h : ∀ g' c' w', OwnE w' base g' k c' (X ++ M) → w.grownBy w' (some g) → wpList Try.prog ops Q rest (a.put o.dst (.slice (some ⟨g', 0, none⟩) k c')) w') : wpList Try.prog ops Q (o :: rest) a w := by
  subst hk
  obtain ⟨i0, hi, hz0, hz1, hz2⟩ := info_parts Try.infoEnt
  cases ax with
  | none =>
    obtain ⟨rfl, rfl, rfl⟩ := hM.nil rfl
    refine wpList_append_own_none hgd s x 25 ho base 54 i0 5 Try.underlying25 hi _ n (flatE X) hs hO.owns hx ?_
    have := h g c w (by simpa using hO) (World.grownBy.refl _ _)
    simpa using this
  | some x' =>
    obtain ⟨gx, rfl, hE⟩ := hM.own x' rfl
    refine wpList_append_own_at _ hgd s x 25 ho base 54 i0 _ 5 56 Try.underlying25 hi hz0 hz1 hz2 rfl (by decide) _ n (flatE X) hs hO.owns ⟨gx, 0, none⟩ m cx (flatE M) hx (by rw [flatE_len, hE.len]) (ents_newsO hE.entsAt) (flatE_one _) (by unfold maxLen; omega) (by omega) (by have := hO.lt; omega) ?_
    intro v' w' hown hgrow hnil hat
    obtain ⟨g', c', rfl⟩ : ∃ g cap, v' = .slice (some ⟨g, 0, none⟩) (n + m) cap := by
      rcases hown.2 with ⟨hv, h0⟩ | ⟨g, cap, _, rfl, _⟩
      · have := (hnil.1 hv).1; cases this
      · exact ⟨g, cap, rfl⟩
    refine h g' c' w' ⟨by rw [flatE_append]; exact hown, by rw [List.length_append, hO.len, hE.len], fun l hl => ?_⟩ (by simpa [Value.ownBlock] using hgrow)
    rcases List.mem_append.1 hl with h1 | h1
    · exact hO.ents l h1
    · exact hE.ents l h1

theorem up_wf {s t : ByteArray} {q d n : Int} (h : EntW (s, q, d, t, n)) (h0 : 0 ≤ q) (h1 : q ≤ 1000) : EntW (s, q + 100, d, t, n) := ⟨h.1, (WalkArith.wf_i64 (by omega) : (Lit.int .i64 (q + 100)).wf = true), h.2.2⟩
/-- One more entry. -/
theorem onA {W wE w6 : World} {gu i cu g6 c6 : Nat} {X : List EntD} {e : EntD} {o : Obj} (hO : OwnE wE W.heap.size gu i cu X) (hB : Below W.heap.size W wE) (hown : w6.ownsRow W.heap.size 54 5 (.slice (some ⟨g6, 0, none⟩) (i + 1) c6) (i + 1) (flatE X ++ entCells e)) (hgrow : (wE.alloc o).grownBy w6 (Value.slice (some ⟨gu, 0, none⟩) i cu).ownBlock) (he : EntW e) : OwnE w6 W.heap.size g6 (i + 1) c6 (X ++ [e]) ∧ Below W.heap.size W w6 := by
  have hg' : (wE.alloc o).grownBy w6 (some gu) := by simpa [Value.ownBlock] using hgrow
  refine ⟨⟨by rw [flatE_append]; simpa [flatE] using hown, by rw [List.length_append, hO.len]; rfl, fun l hl => ?_⟩, ?_⟩
  · rcases List.mem_append.1 hl with h | h
    · exact hO.ents l h
    · rw [List.mem_singleton] at h; subst h; exact he
  · exact (hB.alloc hB.size o).grown hg' (by have := hB.size; simp; omega) (fun k e => by cases e; exact hO.lt.1)
/-- One more number. -/
theorem onN {W wr w6 : World} {gh i ch g6 c6 : Nat} {X : List Int} {z : Int} {o : Obj} (hO : OwnN wr W.heap.size gh i ch X) (hB : Below W.heap.size W wr) (hown : w6.ownsRow W.heap.size 3 1 (.slice (some ⟨g6, 0, none⟩) (i + 1) c6) (i + 1) (X.map (Value.int .i64) ++ [.int .i64 z])) (hgrow : (wr.alloc o).grownBy w6 (Value.slice (some ⟨gh, 0, none⟩) i ch).ownBlock) (hz : (Lit.int .i64 z).wf = true) : OwnN w6 W.heap.size g6 (i + 1) c6 (X ++ [z]) ∧ Below W.heap.size W w6 := by
  have hg' : (wr.alloc o).grownBy w6 (some gh) := by simpa [Value.ownBlock] using hgrow
  refine ⟨⟨by simpa using hown, by rw [List.length_append, hO.len]; rfl, fun l hl => ?_⟩, ?_⟩
  · rcases List.mem_append.1 hl with h | h
    · exact hO.wfs l h
    · rw [List.mem_singleton] at h; subst h; exact hz
  · exact (hB.alloc hB.size o).grown hg' (by have := hB.size; simp; omega) (fun k e => by cases e; exact hO.lt.1)
theorem own_three (w : World) (base : Nat) (h : base ≤ w.heap.size) : OwnN (w.alloc (.cells #[.int .i64 100000, .int .i64 50, .int .i64 7] 3)) base w.heap.size 3 3 [100000, 50, 7] :=
  ⟨by have := World.ownsRow_lit (base := base) (e := 3) (size := 1) w #[.int .i64 100000, .int .i64 50, .int .i64 7] 3 h (by unfold maxLen; omega) (by simp); simpa using this, rfl, fun q hq => by
    simp only [List.mem_cons, List.not_mem_nil, or_false] at hq
    rcases hq with rfl | rfl | rfl <;> decide⟩
theorem ints_newsN {w : World} {lo g n c : Nat} {S : List Int} (h : IntsIn lo w (some ⟨g, 0, none⟩) n c S) : ∀ j u, (S.map (Value.int .i64))[j]? = some u → w.cell? ((⟨g, 0, none⟩ : Addr).add j) = some u := by
  intro j u hj
  rw [List.getElem?_map] at hj
  by_cases hl : j < S.length
  · rw [List.getElem?_eq_getElem hl] at hj
    simp at hj
    subst hj
    rw [Go.WideShapes.add_plain]
    exact h.cells _ rfl j hl
  · rw [List.getElem?_eq_none (by omega)] at hj; cases hj
set_option maxRecDepth 100000 in
theorem neqC_same (b : Bool) (t : ByteArray) (n : Int) (w : World) : (binOp .neq 35 (.agg #[.bool b, .string t, .int .i64 n]) (.agg #[.bool b, .string t, .int .i64 n])).run Try.prog w = .ok (.bool false) w := by
  have hs := run_equalIn_struct (P := Try.prog) w 9999 35 #[.bool b, .string t, .int .i64 n] #[.bool b, .string t, .int .i64 n] (by kernel_rfl) (by kernel_rfl)
  simp [binOp, Op.equal, Op.maxDepth, hs, go_sem, Try.underlying35]
structure On2 (w wi : World) (g n c gs m cs gd nd cd gu cu gh ch : Nat) (L : List EntD) (S : List Int) (D U : List EntD) (Hh : List Int) : Prop where
  st : OnSt w wi g n c gs m cs gd nd cd L S D
  ou : OwnE wi w.heap.size gu n cu U
  oh : OwnN wi w.heap.size gh m ch Hh
theorem On2.below {w wi wj : World} {g n c gs m cs gd nd cd gu cu gh ch : Nat} {L : List EntD} {S : List Int} {D U : List EntD} {Hh : List Int} (h : On2 w wi g n c gs m cs gd nd cd gu cu gh ch L S D U Hh) (hb : Below wi.heap.size wi wj) : On2 w wj g n c gs m cs gd nd cd gu cu gh ch L S D U Hh :=
  ⟨h.st.below hb, h.ou.below hb, h.oh.below hb⟩
theorem below_row {W wA wB : World} {g : Nat} (hB : Below W.heap.size W wA) (hg : wA.grownBy wB (some g)) (hb : W.heap.size ≤ g) : Below W.heap.size W wB := hB.grown hg hB.size (fun k e => by cases e; exact hb)

theorem on_some {w : World} {base : Nat} {e : TypeId} {size k X m : Nat} {v : Value} {xs : List Value} (h : w.ownsRow base e size v k xs) (hn : v = .slice none 0 0 ↔ Value.slice (some ⟨X, 0, none⟩) 3 3 = .slice none 0 0 ∧ m = 0) : ∃ g cap, v = .slice (some ⟨g, 0, none⟩) k cap := by
  rcases h.2 with ⟨hv, h0⟩ | ⟨g, cap, _, rfl, _⟩
  · have := (hn.1 hv).1; cases this
  · exact ⟨g, cap, rfl⟩
theorem onT {w w5 w6 : World} {b' gs m cs g6 c6 : Nat} {S : List Int} (_hX : OwnN w5 w.heap.size w.heap.size 3 3 [100000, 50, 7]) (hos : OwnN w5 b' gs m cs S) (hall : Below w.heap.size w w5)
    (hown : w6.ownsRow w.heap.size 3 1 (.slice (some ⟨g6, 0, none⟩) (3 + m) c6) (3 + m) (([100000, 50, 7] : List Int).map (Value.int .i64) ++ S.map (Value.int .i64))) (hgrow : w5.grownBy w6 (Value.slice (some ⟨w.heap.size, 0, none⟩) 3 3).ownBlock) : OwnN w6 w.heap.size g6 (3 + m) c6 (100000 :: 50 :: 7 :: S) ∧ Below w.heap.size w w6 := by
  have hg' : w5.grownBy w6 (some w.heap.size) := by simpa [Value.ownBlock] using hgrow
  refine ⟨⟨by simpa using hown, by simp [hos.len]; omega, fun x hx => ?_⟩, below_row hall hg' (Nat.le_refl _)⟩
  simp only [List.mem_cons] at hx
  rcases hx with rfl | rfl | rfl | hx
  · decide
  · decide
  · decide
  · exact hos.wfs x hx
set_option maxRecDepth 100000 in
set_option maxHeartbeats 8000000 in
theorem walkFnSquashOn (a : Option Addr) (len cap : Nat) (b : Option Addr) (ml mc : Nat) (w : World) (h : BytesAt w a len cap) (h' : BytesAt w b ml mc) :
    Calls Try.prog 7 #[.slice a len cap, .slice b ml mc] w fun e w' => e = .returned (.bool true) ∧ Below w.heap.size w w' := by
  have H : Hid (BytesAt w a len cap) := h
  have H' : Hid (BytesAt w b ml mc) := h'
  have hm := Nat.le_trans h.1 h.2.1
  have hm' := Nat.le_trans h'.1 h'.2.1
  unfold maxLen at hm hm'
  clear h h'
  by_cases hbig : 1048576 < len
  · go_enter Try.func7, Try.ntmps7
    go_wp2
    go_ret
    exact ⟨rfl, Below.refl _ _⟩
  by_cases hbig2 : 1048576 < ml
  · go_enter Try.func7, Try.ntmps7
    go_wp2
    go_ret
    exact ⟨rfl, Below.refl _ _⟩
  obtain ⟨i0, hi, hz0, hz1, hz2⟩ := info_parts Try.infoEnt
  obtain ⟨j0, hj, hy0, hy1, hy2⟩ := info_parts Try.infoInt
  go_enter Try.func7, Try.ntmps7
  go_wp2_with fail
  refine (drawSq_any a len cap w H.out).mono ?_
  rintro e w1 ⟨g, n, c, L, gs, m, cs, S, b0, rfl, hO, hN, hD, hm3, hS, hgs, hb1⟩
  have HDO : Hid (DrOk L) := hD
  have HLN : Hid (L.length = n) := hO.len
  have HSN : Hid (S.length = m) := hN.len
  have HSS : Hid (∀ s ∈ S, 0 ≤ s ∧ s < 20) := hS
  have hn15 : n ≤ 15 := by have h1 := hO.len; have h2 := hD.1; omega
  have HB1 : Hid (Below w.heap.size w w1) := hb1
  have HO1 : Hid (OwnE w1 w.heap.size g n c L) := hO
  have HN1 : Hid (OwnN w1 w.heap.size gs m cs S) := hN
  clear hb1 hO hN hD hS H hgs
  go_wp2_with fail
  refine (drawAll_any b ml mc w1 (H'.out.keep HB1.out)).mono ?_
  rintro e w2 ⟨gd, nd, cd, D, key, seq, rfl, hOd, hnd, hX, hK, hsq, hb2⟩
  have HDX : Hid (AllX D 24) := hX
  have HDN : Hid (D.length = nd) := hOd.len
  have T2 : Hid (OnSt w w2 g n c gs m cs gd nd cd L S D) := ⟨HB1.out.trans (hb2.mono HB1.out.size), HO1.out.below hb2, HN1.out.below hb2, hOd.mono HB1.out.size⟩
  clear hOd hX hK hb2 HB1 HO1 HN1 H' hsq hm hm' hbig hbig2
  go_wp2_with fail
  refine (callsIn_wide.1 (implSquash _ g 0 n c L _ _ _ S b0 w2 T2.out.ol.entsAt T2.out.os.ints (by omega) (by omega) T2.out.ol.lt.2)).mono ?_
  rintro e w3 ⟨ag, ng, cg, rfl, hG3, hb3⟩
  have T3 : Hid (OnSt w w3 g n c gs m cs gd nd cd L S D) := T2.out.below hb3
  obtain ⟨F, hF⟩ : ∃ F, squashL L S b0 = F := ⟨_, rfl⟩
  rw [hF] at hG3
  have HG3 : Hid (OwnO w3 w.heap.size ag ng cg F) := hG3.mono T2.out.all.size
  have HFL : Hid (F.length ≤ n) := by have := squashL_len L S b0; show F.length ≤ n; rw [hF] at this; have := HLN.out; omega
  have CS : Hid (∀ (lo : Nat) (w' : World), EntsAt w' (some ⟨g, 0, none⟩) n c L → IntsIn lo w' (some ⟨gs, 0, none⟩) m cs S → Calls Try.prog 12 #[.slice (some ⟨g, 0, none⟩) n c, .slice (some ⟨gs, 0, none⟩) m cs, .bool b0] w' fun e w'' => ∃ g' n' c', e = .returned (.slice (some ⟨g', 0, none⟩) n' c') ∧ OwnE w'' w'.heap.size g' n' c' F ∧ Below w'.heap.size w' w'') := fun lo w' h1 h2 => by
    rw [← hF]
    exact specSquash lo _ _ _ L _ _ _ S b0 w' h1 h2 (by omega)
  clear T2 hG3 hb3 hF
  have HA0 : Hid (Below w3.heap.size w3 (w3.alloc (.cells #[] 54))) := (Below.refl _ _).alloc (Nat.le_refl _) _
  have HU0 : Hid (OwnE (w3.alloc (.cells #[] 54)) w3.heap.size w3.heap.size 0 0 []) := own_empty w3 _ (Nat.le_refl _)
  obtain ⟨W3, hW3⟩ : ∃ W3, W3 = w3 := ⟨_, rfl⟩
  subst hW3
  go_wp2
  go_loopw [12, 13] (fun o iv wr => ∃ (i gu cu : Nat), i ≤ n ∧ iv = .int .i64 i ∧ o = .slice (some ⟨gu, 0, none⟩) i cu ∧ OwnE wr W3.heap.size gu i cu ((L.take i).map upE) ∧ Below W3.heap.size W3 wr) (fun _ iv _ => n - (intOf iv).toNat)
  case atStart => exact ⟨0, W3.heap.size, 0, Nat.zero_le _, rfl, rfl, HU0.out, HA0.out⟩
  case round =>
    clear HA0 HU0
    obtain ⟨i, gu, cu, hin, rfl, rfl, hU, hB⟩ := hrel
    have HB : Hid (Below W3.heap.size W3 wr) := hB
    have HU : Hid (OwnE wr W3.heap.size gu i cu ((L.take i).map upE)) := hU
    clear hU hB
    by_cases hil : i < n
    · have hilI : (i : Int) < (n : Int) := by omega
      have zg : g < wr.heap.size := Nat.lt_of_lt_of_le T3.out.ol.lt.2 HB.out.size
      obtain ⟨s, q, d, t, nn, hx, hew, g0, g1, g2, g3, g4⟩ := T3.out.ol.entsAt.ent HB.out T3.out.ol.lt.2 i hil
      simp only [Nat.zero_add] at g0 g1 g2 g3 g4
      have HX : Hid (L[i]? = some (s, q, d, t, nn)) := hx
      have HQ : Hid (0 ≤ q ∧ q ≤ 1000) := ⟨by have := (entB_seq (HDO.out.2.1 _ (List.mem_of_getElem? hx))).1; simp only at this; omega, HDO.out.2.2.2 _ (List.mem_of_getElem? hx)⟩
      have hq0 := HQ.out.1
      have hq1 := HQ.out.2
      have wq : IntKind.i64.wrap (q + 100) = q + 100 := by rw [IntWalk.i64_left]; unfold wrap64; omega
      have HEU : Hid (EntW (s, q + 100, d, t, nn)) := up_wf (T3.out.ol.ents _ (List.mem_of_getElem? hx)) (by omega) (by omega)
      clear hx hew
      go_upto_region 12 with fail
      obtain ⟨E, hE⟩ : ∃ E, E = wr.heap.size := ⟨_, rfl⟩
      obtain ⟨wE, hwE⟩ : ∃ wE, wE = wr.alloc (.cells #[.string s, .int .i64 (q + 100), .int .i64 d, .string t, .int .i64 nn] 54) := ⟨_, rfl⟩
      have kE : Below wr.heap.size wr wE := by rw [hwE]; exact (Below.refl _ _).alloc (Nat.le_refl _) _
      have BX : Box5 wE E (.string s) (.int .i64 (q + 100)) (.int .i64 d) (.string t) (.int .i64 nn) := by rw [hwE, hE]; exact Box5.new _ _ _ _ _ _ _
      have x0 := BX.c0
      have x1 := BX.c1
      have x2 := BX.c2
      have x3 := BX.c3
      have x4 := BX.c4
      have zE := BX.lt
      have HUE : Hid (OwnE wE W3.heap.size gu i cu ((L.take i).map upE)) := HU.out.below kE
      have HBE : Hid (Below W3.heap.size W3 wE) := HB.out.trans (kE.mono HB.out.size)
      rw [← hwE, ← hE]
      clear hwE hE kE BX g0 g1 g2 g3 g4 HU HB zg
      go_wp2_with (at_builtin; refine wpList_append_own_at _ rfl _ _ 25 rfl W3.heap.size 54 i0 _ 5 56 Try.underlying25 hi hz0 hz1 hz2 rfl (by decide) _ _ _ rfl (HUE.out.owns.alloc _) ⟨wE.heap.size, 0, none⟩ 1 1 (entCells (s, q + 100, d, t, nn)) rfl rfl (cell_fiveD _ _ _ _ _ _ _) (flatE_one [(s, q + 100, d, t, nn)]) (by unfold maxLen; omega) (by omega) (by have := HBE.out.size; simp; omega) ?_; intro v6 w6 hown6 hgrow6 hnil6 hat6; obtain ⟨g6, c6, rfl⟩ := sd_some hown6; obtain ⟨HO6, HB6⟩ : Hid (OwnE w6 W3.heap.size g6 (i + 1) c6 ((L.take i).map upE ++ [(s, q + 100, d, t, nn)])) ∧ Hid (Below W3.heap.size W3 w6) := onA HUE.out HBE.out hown6 hgrow6 HEU.out; clear hown6 hgrow6 hnil6 hat6 HUE HBE x0 x1 x2 x3 x4 zE)
      go_roundw
      case rel => exact ⟨i + 1, g6, c6, by omega, by go_num, rfl, by rw [take_up HX.out]; exact HO6.out, HB6.out⟩
      case measure => simp [intOf] <;> omega
    · have hilI : ¬ (i : Int) < (n : Int) := by omega
      obtain rfl : i = n := by omega
      have HU4 : Hid (OwnE wr w.heap.size gu i cu (L.map upE)) := by
        have h1 := HU.out.mono T3.out.all.size
        rw [List.take_of_length_le (by have := HLN.out; omega)] at h1
        exact h1
      obtain ⟨U, hUU⟩ : ∃ U, U = L.map upE := ⟨_, rfl⟩
      rw [← hUU] at HU4
      have HUU : Hid (U = L.map upE) := hUU
      have T4 : Hid (OnSt w wr g i c gs m cs gd nd cd L S D) := T3.out.below HB.out
      have HG4 : Hid (OwnO wr w.heap.size ag ng cg F) := HG3.out.below HB.out
      obtain ⟨W4, hW4⟩ : ∃ W4, W4 = wr := ⟨_, rfl⟩
      subst hW4
      have HA0 : Hid (Below W4.heap.size W4 (W4.alloc (.cells #[] 3))) := (Below.refl _ _).alloc (Nat.le_refl _) _
      have HN0 : Hid (OwnN (W4.alloc (.cells #[] 3)) W4.heap.size W4.heap.size 0 0 []) := ownN_nil W4 _ (Nat.le_refl _)
      obtain ⟨n, hni⟩ : ∃ n, n = i := ⟨_, rfl⟩
      subst hni
      clear T3 HG3 HU HB hUU hil hilI hin
      go_wp2
      go_loopw [15, 16] (fun o iv wr => ∃ (i gh ch : Nat), i ≤ m ∧ iv = .int .i64 i ∧ o = .slice (some ⟨gh, 0, none⟩) i ch ∧ OwnN wr W4.heap.size gh i ch ((S.take i).map (· + 100)) ∧ Below W4.heap.size W4 wr) (fun _ iv _ => m - (intOf iv).toNat)
      case atStart => exact ⟨0, W4.heap.size, 0, Nat.zero_le _, rfl, rfl, HN0.out, HA0.out⟩
      case round =>
        clear HA0 HN0
        obtain ⟨i, gh, ch, hin, rfl, rfl, hN, hB⟩ := hrel
        have HB : Hid (Below W4.heap.size W4 wr) := hB
        have HN : Hid (OwnN wr W4.heap.size gh i ch ((S.take i).map (· + 100))) := hN
        clear hN hB
        by_cases hil : i < m
        · have hilI : (i : Int) < (m : Int) := by omega
          have zg : gs < wr.heap.size := Nat.lt_of_lt_of_le T4.out.os.lt.2 HB.out.size
          obtain ⟨tt, htt, _, e0⟩ := T4.out.os.ints.num HB.out i hil
          simp only [Nat.zero_add] at e0
          have HX : Hid (S[i]? = some tt) := htt
          have hq := HSS.out tt (List.mem_of_getElem? htt)
          have hq0 := hq.1
          have hq1 := hq.2
          have wq : IntKind.i64.wrap (tt + 100) = tt + 100 := by rw [IntWalk.i64_left]; unfold wrap64; omega
          clear htt hq
          go_wp2_with (at_builtin; refine wpList_append_own_at _ rfl _ _ 23 rfl W4.heap.size 3 j0 _ 1 8 Try.underlying23 hj hy0 hy1 hy2 rfl (by decide) _ _ _ rfl (HN.out.owns.alloc _) ⟨wr.heap.size, 0, none⟩ 1 1 [.int .i64 (tt + 100)] rfl rfl (cellI_one _ _ _) (by simp [Value.oneCell']) (by unfold maxLen; omega) (by omega) (by have := HB.out.size; simp; omega) ?_; intro v6 w6 hown6 hgrow6 hnil6 hat6; obtain ⟨g6, c6, rfl⟩ := sd_some hown6; obtain ⟨HO6, HB6⟩ : Hid (OwnN w6 W4.heap.size g6 (i + 1) c6 ((S.take i).map (· + 100) ++ [tt + 100])) ∧ Hid (Below W4.heap.size W4 w6) := onN HN.out HB.out hown6 hgrow6 (WalkArith.wf_i64 (by omega)); clear hown6 hgrow6 hnil6 hat6 HN HB e0 zg)
          go_roundw
          case rel => exact ⟨i + 1, g6, c6, by omega, by go_num, rfl, by rw [List.take_add_one, HX.out]; simpa using HO6.out, HB6.out⟩
          case measure => simp [intOf] <;> omega
        · have hilI : ¬ (i : Int) < (m : Int) := by omega
          obtain rfl : i = m := by omega
          have HN5 : Hid (OwnN wr w.heap.size gh i ch (S.map (· + 100))) := by
            have h1 := HN.out.mono T4.out.all.size
            rw [List.take_of_length_le (by have := HSN.out; omega)] at h1
            exact h1
          obtain ⟨Hh, hHH⟩ : ∃ Hh, Hh = S.map (· + 100) := ⟨_, rfl⟩
          rw [← hHH] at HN5
          have T5 : Hid (On2 w wr g n c gs i cs gd nd cd gu cu gh ch L S D U Hh) := ⟨T4.out.below HB.out, HU4.out.below HB.out, HN5.out⟩
          have HG5 : Hid (OwnO wr w.heap.size ag ng cg F) := HG4.out.below HB.out
          have HHN : Hid (Hh.length = i) := HN5.out.len
          obtain ⟨W5, hW5⟩ : ∃ W5, W5 = wr := ⟨_, rfl⟩
          subst hW5
          obtain ⟨m, hmi⟩ : ∃ m, m = i := ⟨_, rfl⟩
          subst hmi
          clear T4 HG4 HU4 HN HB hHH hil hilI hin HN5
          go_wp2_with fail
          refine (CS.out _ _ T5.out.st.ol.entsAt T5.out.st.os.ints).mono ?_
          rintro e w6 ⟨gw, nw, cw, rfl, hW6, hb6⟩
          have T6 : Hid (On2 w w6 g n c gs m cs gd nd cd gu cu gh ch L S D U Hh) := T5.out.below hb6
          have HW6 : Hid (EntsAt w6 (some ⟨gw, 0, none⟩) nw cw F) := hW6.entsAt
          have HG6 : Hid (EntsAt w6 ag ng cg F) := (HG5.out.below hb6).entsAt
          clear T5 HG5 hW6 hb6 CS
          go_wp2_with fail
          refine (wpEnts_any _ _ _ _ _ _ F F _ HG6.out HW6.out).mono ?_
          rintro e w7 ⟨rfl, hb7⟩
          have T7 : Hid (On2 w w7 g n c gs m cs gd nd cd gu cu gh ch L S D U Hh) := T6.out.below hb7
          have hFF : decide (F = F) = true := by simp
          rw [hFF]
          clear T6 HW6 HG6 hb7 hFF
          go_wp2
          go_loopw [17] (fun iv wr => ∃ i : Nat, 1 ≤ i ∧ (i ≤ n ∨ i = 1) ∧ iv = .int .i64 i ∧ On2 w wr g n c gs m cs gd nd cd gu cu gh ch L S D U Hh ∧ (∀ j, 1 ≤ j → j < i → ∀ x y, L[j - 1]? = some x → L[j]? = some y → lessB x.1 x.2.1 y.1 y.2.1 = true)) (fun iv _ => n - (intOf iv).toNat)
          case atStart => exact ⟨1, Nat.le_refl _, .inr rfl, rfl, T7.out, fun j h1 h2 => by omega⟩
          case round =>
            clear T7
            obtain ⟨i, hi1, hin, rfl, hT, hless⟩ := hrel
            have HT : Hid (On2 w wr g n c gs m cs gd nd cd gu cu gh ch L S D U Hh) := hT
            have HLS : Hid (∀ j, 1 ≤ j → j < i → ∀ x y, L[j - 1]? = some x → L[j]? = some y → lessB x.1 x.2.1 y.1 y.2.1 = true) := hless
            clear hT hless
            by_cases hil : i < n
            · have hilI : (i : Int) < (n : Int) := by omega
              obtain ⟨p, hp⟩ : ∃ p, i = p + 1 := ⟨i - 1, by omega⟩
              have wi : IntKind.i64.wrap ((i : Int) - 1) = (p : Int) := by
                have e : (i : Int) - 1 = (p : Int) := by omega
                rw [e, IntWalk.i64_left]; unfold wrap64; omega
              have hpI : (p : Int) < (n : Int) := by omega
              have HP : Hid (i = p + 1) := hp
              have zg := HT.out.st.ol.lt.2
              obtain ⟨s, q, d, t, z, hx, _, g0, g1, g2, g3, g4⟩ := HT.out.st.ol.entsAt.ent (Below.refl _ wr) zg p (by omega)
              obtain ⟨s', q', d', t', z', hy, _, e0, e1, e2, e3, e4⟩ := HT.out.st.ol.entsAt.ent (Below.refl _ wr) zg i hil
              simp only [Nat.zero_add] at g0 g1 g2 g3 g4 e0 e1 e2 e3 e4
              have HX : Hid (L[p]? = some (s, q, d, t, z)) := hx
              have HY : Hid (L[i]? = some (s', q', d', t', z')) := hy
              have k0 : Below wr.heap.size wr wr.drew := (Below.refl _ wr).drew
              have HMK : Hid (∀ w', Below wr.heap.size wr w' → (w'.cell? ⟨g, p * 5, none⟩ = some (.string s) ∧ w'.cell? ⟨g, p * 5 + 1, none⟩ = some (.int .i64 q) ∧ w'.cell? ⟨g, p * 5 + 2, none⟩ = some (.int .i64 d) ∧ w'.cell? ⟨g, p * 5 + 3, none⟩ = some (.string t) ∧ w'.cell? ⟨g, p * 5 + 4, none⟩ = some (.int .i64 z) ∧ w'.cell? ⟨g, i * 5, none⟩ = some (.string s') ∧ w'.cell? ⟨g, i * 5 + 1, none⟩ = some (.int .i64 q') ∧ w'.cell? ⟨g, i * 5 + 2, none⟩ = some (.int .i64 d') ∧ w'.cell? ⟨g, i * 5 + 3, none⟩ = some (.string t') ∧ w'.cell? ⟨g, i * 5 + 4, none⟩ = some (.int .i64 z') ∧ g < w'.heap.size)) := fun w' kk => ⟨cell_later kk g0, cell_later kk g1, cell_later kk g2, cell_later kk g3, cell_later kk g4, cell_later kk e0, cell_later kk e1, cell_later kk e2, cell_later kk e3, cell_later kk e4, Nat.lt_of_lt_of_le zg kk.size⟩
              clear hx hy g0 g1 g2 g3 g4 e0 e1 e2 e3 e4 hp
              cases hlb : lessB s q s' q' with
              | true =>
                go_wp2_with fail
                refine wp_region_held_drew (S := (fun w' => w'.cell? ⟨g, p * 5, none⟩ = some (.string s) ∧ w'.cell? ⟨g, p * 5 + 1, none⟩ = some (.int .i64 q) ∧ w'.cell? ⟨g, p * 5 + 2, none⟩ = some (.int .i64 d) ∧ w'.cell? ⟨g, p * 5 + 3, none⟩ = some (.string t) ∧ w'.cell? ⟨g, p * 5 + 4, none⟩ = some (.int .i64 z) ∧ w'.cell? ⟨g, i * 5, none⟩ = some (.string s') ∧ w'.cell? ⟨g, i * 5 + 1, none⟩ = some (.int .i64 q') ∧ w'.cell? ⟨g, i * 5 + 2, none⟩ = some (.int .i64 d') ∧ w'.cell? ⟨g, i * 5 + 3, none⟩ = some (.string t') ∧ w'.cell? ⟨g, i * 5 + 4, none⟩ = some (.int .i64 z') ∧ g < w'.heap.size)) (by kernel_rfl) (HMK.out _ k0) (fun hHeld => ?_)
                refine wpAnyH_takeL (i := 0) (v := ?_) rfl (by kernel_rfl) (by kernel_rfl) (by kernel_rfl) (fun _ _ _ h => h) (Or.inl ⟨by rfl, ?_⟩) hHeld ?_
                rotate_left
                · (intro w hSw; (try dsimp only at hSw); go_simp; try with_reducible rfl)
                try go_frame
                refine wpAnyH_takeL (i := 1) (v := ?_) rfl (by kernel_rfl) (by kernel_rfl) (by kernel_rfl) (fun _ _ _ h => h) (Or.inl ⟨by rfl, ?_⟩) hHeld ?_
                rotate_left
                · (intro w hSw; (try dsimp only at hSw); go_simp; try with_reducible rfl)
                try go_frame
                refine wpAnyH_takeL (i := 2) (v := ?_) rfl (by kernel_rfl) (by kernel_rfl) (by kernel_rfl) (fun _ _ _ h => h) (Or.inl ⟨by rfl, ?_⟩) hHeld ?_
                rotate_left
                · (intro w hSw; (try dsimp only at hSw); go_simp; try with_reducible rfl)
                try go_frame
                refine wpAnyH_takeL (i := 3) (v := ?_) rfl (by kernel_rfl) (by kernel_rfl) (by kernel_rfl) (fun _ _ _ h => h) (Or.inl ⟨by rfl, ?_⟩) hHeld ?_
                rotate_left
                · (intro w hSw; (try dsimp only at hSw); go_simp; try with_reducible rfl)
                try go_frame
                refine wpAnyH_takeL (i := 4) (v := ?_) rfl (by kernel_rfl) (by kernel_rfl) (by kernel_rfl) (fun _ _ _ h => h) (Or.inl ⟨by rfl, ?_⟩) hHeld ?_
                rotate_left
                · (intro w hSw; (try dsimp only at hSw); go_simp; try with_reducible rfl)
                try go_frame
                refine wpAnyH_takeL (i := 5) (v := ?_) rfl (by kernel_rfl) (by kernel_rfl) (by kernel_rfl) (fun _ _ _ h => h) (Or.inl ⟨by rfl, ?_⟩) hHeld ?_
                rotate_left
                · (intro w hSw; (try dsimp only at hSw); go_simp; try with_reducible rfl)
                try go_frame
                refine wpAnyH_takeL (i := 6) (v := ?_) rfl (by kernel_rfl) (by kernel_rfl) (by kernel_rfl) (fun _ _ _ h => h) (Or.inl ⟨by rfl, ?_⟩) hHeld ?_
                rotate_left
                · (intro w hSw; (try dsimp only at hSw); go_simp; try with_reducible rfl)
                try go_frame
                refine wpAnyH_takeL (i := 7) (v := ?_) rfl (by kernel_rfl) (by kernel_rfl) (by kernel_rfl) (fun _ _ _ h => h) (Or.inl ⟨by rfl, ?_⟩) hHeld ?_
                rotate_left
                · (intro w hSw; (try dsimp only at hSw); go_simp; try with_reducible rfl)
                try go_frame
                refine wpAnyH_takeL (i := 8) (v := ?_) rfl (by kernel_rfl) (by kernel_rfl) (by kernel_rfl) (fun _ _ _ h => h) (Or.inl ⟨by rfl, ?_⟩) hHeld ?_
                rotate_left
                · (intro w hSw; (try dsimp only at hSw); go_simp; try with_reducible rfl)
                try go_frame
                refine wpAnyH_ready (rs := [9]) (by kernel_rfl) (by simp) ?_
                refine consL rfl (fun K hK => ?_) AllReadyH.nil
                go_simp
                refine (implLess s t s' t' q d z q' d' z' _).mono ?_
                rintro e w1 ⟨rfl, b1⟩
                have k1 : Below wr.heap.size wr w1 := k0.trans (b1.mono k0.size)
                go_wp2_with fail
                refine hK.out _ _ (HMK.out _ k1) (fun hHeld => ?_)
                clear hK K
                try go_frame
                refine wpAnyH_takeL (i := 10) (v := ?_) rfl (by kernel_rfl) (by kernel_rfl) (by kernel_rfl) (fun _ _ _ h => h) (Or.inl ⟨by rfl, ?_⟩) hHeld ?_
                rotate_left
                · (intro w hSw; (try dsimp only at hSw); go_simp; try with_reducible rfl)
                try go_frame
                refine wpAnyH_done (by kernel_rfl) ?_ _
                clear HMK hHeld
                have T1 : Hid (On2 w w1 g n c gs m cs gd nd cd gu cu gh ch L S D U Hh) := HT.out.below k1
                clear k1 k0 HT b1
                go_wp2
                go_roundw
                case rel =>
                  refine ⟨i + 1, by omega, by omega, by go_num, T1.out, fun j h1 h2 x y hx hy => ?_⟩
                  have hpp := HP.out
                  by_cases hj : j < i
                  · exact HLS.out j h1 hj x y hx hy
                  · have : j = i := by omega
                    subst this
                    rw [HY.out] at hy
                    rw [show j - 1 = p by omega, HX.out] at hx
                    cases hx
                    cases hy
                    exact hlb
                case measure => simp [intOf]; omega
              | false =>
                go_wp2_with fail
                refine wp_region_held_drew (S := (fun w' => w'.cell? ⟨g, p * 5, none⟩ = some (.string s) ∧ w'.cell? ⟨g, p * 5 + 1, none⟩ = some (.int .i64 q) ∧ w'.cell? ⟨g, p * 5 + 2, none⟩ = some (.int .i64 d) ∧ w'.cell? ⟨g, p * 5 + 3, none⟩ = some (.string t) ∧ w'.cell? ⟨g, p * 5 + 4, none⟩ = some (.int .i64 z) ∧ w'.cell? ⟨g, i * 5, none⟩ = some (.string s') ∧ w'.cell? ⟨g, i * 5 + 1, none⟩ = some (.int .i64 q') ∧ w'.cell? ⟨g, i * 5 + 2, none⟩ = some (.int .i64 d') ∧ w'.cell? ⟨g, i * 5 + 3, none⟩ = some (.string t') ∧ w'.cell? ⟨g, i * 5 + 4, none⟩ = some (.int .i64 z') ∧ g < w'.heap.size)) (by kernel_rfl) (HMK.out _ k0) (fun hHeld => ?_)
                refine wpAnyH_takeL (i := 0) (v := ?_) rfl (by kernel_rfl) (by kernel_rfl) (by kernel_rfl) (fun _ _ _ h => h) (Or.inl ⟨by rfl, ?_⟩) hHeld ?_
                rotate_left
                · (intro w hSw; (try dsimp only at hSw); go_simp; try with_reducible rfl)
                try go_frame
                refine wpAnyH_takeL (i := 1) (v := ?_) rfl (by kernel_rfl) (by kernel_rfl) (by kernel_rfl) (fun _ _ _ h => h) (Or.inl ⟨by rfl, ?_⟩) hHeld ?_
                rotate_left
                · (intro w hSw; (try dsimp only at hSw); go_simp; try with_reducible rfl)
                try go_frame
                refine wpAnyH_takeL (i := 2) (v := ?_) rfl (by kernel_rfl) (by kernel_rfl) (by kernel_rfl) (fun _ _ _ h => h) (Or.inl ⟨by rfl, ?_⟩) hHeld ?_
                rotate_left
                · (intro w hSw; (try dsimp only at hSw); go_simp; try with_reducible rfl)
                try go_frame
                refine wpAnyH_takeL (i := 3) (v := ?_) rfl (by kernel_rfl) (by kernel_rfl) (by kernel_rfl) (fun _ _ _ h => h) (Or.inl ⟨by rfl, ?_⟩) hHeld ?_
                rotate_left
                · (intro w hSw; (try dsimp only at hSw); go_simp; try with_reducible rfl)
                try go_frame
                refine wpAnyH_takeL (i := 4) (v := ?_) rfl (by kernel_rfl) (by kernel_rfl) (by kernel_rfl) (fun _ _ _ h => h) (Or.inl ⟨by rfl, ?_⟩) hHeld ?_
                rotate_left
                · (intro w hSw; (try dsimp only at hSw); go_simp; try with_reducible rfl)
                try go_frame
                refine wpAnyH_takeL (i := 5) (v := ?_) rfl (by kernel_rfl) (by kernel_rfl) (by kernel_rfl) (fun _ _ _ h => h) (Or.inl ⟨by rfl, ?_⟩) hHeld ?_
                rotate_left
                · (intro w hSw; (try dsimp only at hSw); go_simp; try with_reducible rfl)
                try go_frame
                refine wpAnyH_takeL (i := 6) (v := ?_) rfl (by kernel_rfl) (by kernel_rfl) (by kernel_rfl) (fun _ _ _ h => h) (Or.inl ⟨by rfl, ?_⟩) hHeld ?_
                rotate_left
                · (intro w hSw; (try dsimp only at hSw); go_simp; try with_reducible rfl)
                try go_frame
                refine wpAnyH_takeL (i := 7) (v := ?_) rfl (by kernel_rfl) (by kernel_rfl) (by kernel_rfl) (fun _ _ _ h => h) (Or.inl ⟨by rfl, ?_⟩) hHeld ?_
                rotate_left
                · (intro w hSw; (try dsimp only at hSw); go_simp; try with_reducible rfl)
                try go_frame
                refine wpAnyH_takeL (i := 8) (v := ?_) rfl (by kernel_rfl) (by kernel_rfl) (by kernel_rfl) (fun _ _ _ h => h) (Or.inl ⟨by rfl, ?_⟩) hHeld ?_
                rotate_left
                · (intro w hSw; (try dsimp only at hSw); go_simp; try with_reducible rfl)
                try go_frame
                refine wpAnyH_ready (rs := [9]) (by kernel_rfl) (by simp) ?_
                refine consL rfl (fun K hK => ?_) AllReadyH.nil
                go_simp
                refine (implLess s t s' t' q d z q' d' z' _).mono ?_
                rintro e w1 ⟨rfl, b1⟩
                have k1 : Below wr.heap.size wr w1 := k0.trans (b1.mono k0.size)
                go_wp2_with fail
                refine hK.out _ _ (HMK.out _ k1) (fun hHeld => ?_)
                clear hK K
                try go_frame
                refine wpAnyH_takeL (i := 10) (v := ?_) rfl (by kernel_rfl) (by kernel_rfl) (by kernel_rfl) (fun _ _ _ h => h) (Or.inl ⟨by rfl, ?_⟩) hHeld ?_
                rotate_left
                · (intro w hSw; (try dsimp only at hSw); go_simp; try with_reducible rfl)
                try go_frame
                refine wpAnyH_done (by kernel_rfl) ?_ _
                clear HMK hHeld
                have HB1 : Hid (Below w.heap.size w w1) := (HT.out.below k1).st.all
                clear k1 k0 HT b1
                go_wp2
                go_ret
                exact ⟨rfl, HB1.out⟩
            · have hilI : ¬ (i : Int) < (n : Int) := by omega
              have HRT : Hid (rightB L = true) := right_all HLN.out HDO.out.2.1 (fun j h1 h2 => HLS.out j h1 (by omega))
              have HUR : Hid (rightB U = true) := by show rightB U = true; rw [HUU.out]; exact up_all HRT.out HDO.out.2.2.2
              have HUH : Hid (∀ e ∈ U, 100 < e.2.1) := by show ∀ e ∈ U, 100 < e.2.1; rw [HUU.out]; exact up_high HDO.out.2.1
              obtain ⟨W8, hW8⟩ : ∃ W8, W8 = wr := ⟨_, rfl⟩
              subst hW8
              clear HLS HRT HUU
              go_wp2_with fail
              refine (callsIn_wide.1 (implSquash _ gu 0 n cu U _ _ _ Hh false W8 HT.out.ou.entsAt HT.out.oh.ints (by omega) (by omega) HT.out.ou.lt.2)).mono ?_
              rintro e w9 ⟨al, nl, cl, rfl, hL9, hb9⟩
              obtain ⟨V, hV⟩ : ∃ V, V = squashL U Hh false := ⟨_, rfl⟩
              rw [← hV] at hL9
              have T9 : Hid (On2 w w9 g n c gs m cs gd nd cd gu cu gh ch L S D U Hh) := HT.out.below hb9
              have HV9 : Hid (OwnO w9 w.heap.size al nl cl V) := hL9.mono HT.out.st.all.size
              have HUL : Hid (U.length = n) := HT.out.ou.len
              have hnl : nl ≤ n := by have h1 := hL9.len; have h2 := squashL_len U Hh false; have h3 := HUL.out; rw [← hV] at h2; omega
              have HVS : Hid (∀ e ∈ V, SmE e) := by show ∀ e ∈ V, SmE e; rw [hV]; exact squash_small HUR.out Hh false
              have HUS : Hid (∀ e ∈ U, SmE e) := right_sm HUR.out
              have HDS : Hid (∀ e ∈ D, e.2.2.2.1.size ≤ 281474976710656) := fun e he => by have := (HDX.out.1 e he).1.2.2.2.2.2.2.2.1; omega
              have HCE : Hid (∀ t, t ∈ Hh ∨ t = 100000 ∨ t ≤ 100 → cellL (D ++ V) key t = cellL (D ++ U) key t) := fun t ht => by
                rw [hV]
                exact squash_on HDX.out.2 (fun e he => by have := (HDX.out.1 e he).2.2; omega) HUH.out HUR.out Hh key t ht
              have HBA : Hid (Below w9.heap.size w9 (w9.alloc (.cells #[] 54))) := (Below.refl _ _).alloc (Nat.le_refl _) _
              have HE0 : Hid (OwnE (w9.alloc (.cells #[] 54)) w9.heap.size w9.heap.size 0 0 []) := own_empty w9 _ (Nat.le_refl _)
              obtain ⟨wA, hwA⟩ : ∃ wA, wA = w9.alloc (.cells #[] 54) := ⟨_, rfl⟩
              rw [← hwA] at HBA HE0
              obtain ⟨NA, hNA⟩ : ∃ NA, NA = nd + n := ⟨_, rfl⟩
              obtain ⟨NB, hNB⟩ : ∃ NB, NB = nd + nl := ⟨_, rfl⟩
              have HNA : Hid (NA = nd + n) := hNA
              have HNB : Hid (NB = nd + nl) := hNB
              have hNA5 : NA ≤ 1048576 := by omega
              have hNB5 : NB ≤ 1048576 := by omega
              clear hNA hNB
              clear HT hL9 hb9 hV HUH HUR hin hi1 hil hilI
              go_upto_region 27 with (first
                | (at_builtin; rw [← hwA]; refine wpList_app_ents rfl _ _ rfl w9.heap.size w.heap.size w9.heap.size 0 0 [] rfl HE0.out (some ⟨gd, 0, none⟩) nd cd D rfl (OwnO.some (T9.out.below HBA.out).st.od) (by omega) (by omega) nd (by omega) ?_; intro gA cA w10 hO10 hg10; have HB10 : Hid (Below w9.heap.size w9 w10) := below_row HBA.out hg10 (Nat.le_refl _); have HO10 : Hid (OwnE w10 w9.heap.size gA nd cA D) := hO10; clear hO10 hg10 HBA HE0 hwA)
                | (at_builtin; refine wpList_app_ents rfl _ _ rfl w9.heap.size w.heap.size gA nd cA D rfl HO10.out (some ⟨gu, 0, none⟩) n cu U rfl (OwnO.some (T9.out.below HB10.out).ou) (by omega) (by omega) NA HNA.out ?_; intro gA' cA' w11 hO11 hg11; have HB11 : Hid (Below w9.heap.size w9 w11) := below_row HB10.out hg11 HO10.out.lt.1; have HO11 : Hid (OwnE w11 w9.heap.size gA' NA cA' (D ++ U)) := hO11; clear hO11 hg11 HO10 HB10))
              obtain ⟨W11, hW11⟩ : ∃ W11, W11 = w11 := ⟨_, rfl⟩
              subst hW11
              have T11 : Hid (On2 w W11 g n c gs m cs gd nd cd gu cu gh ch L S D U Hh) := T9.out.below HB11.out
              have HV11 : Hid (OwnO W11 w.heap.size al nl cl V) := HV9.out.below HB11.out
              have HA11 : Hid (OwnE W11 w.heap.size gA' NA cA' (D ++ U)) := HO11.out.mono T9.out.st.all.size
              clear T9 HV9 HB11 HO11
              have HBA : Hid (Below W11.heap.size W11 (W11.alloc (.cells #[] 54))) := (Below.refl _ _).alloc (Nat.le_refl _) _
              have HE0 : Hid (OwnE (W11.alloc (.cells #[] 54)) W11.heap.size W11.heap.size 0 0 []) := own_empty W11 _ (Nat.le_refl _)
              obtain ⟨wA, hwA⟩ : ∃ wA, wA = W11.alloc (.cells #[] 54) := ⟨_, rfl⟩
              rw [← hwA] at HBA HE0
              go_upto_region 28 with (first
                | (at_builtin; rw [← hwA]; refine wpList_app_ents rfl _ _ rfl W11.heap.size w.heap.size W11.heap.size 0 0 [] rfl HE0.out (some ⟨gd, 0, none⟩) nd cd D rfl (OwnO.some (T11.out.below HBA.out).st.od) (by omega) (by omega) nd (by omega) ?_; intro gB cB w12 hO12 hg12; have HB12 : Hid (Below W11.heap.size W11 w12) := below_row HBA.out hg12 (Nat.le_refl _); have HO12 : Hid (OwnE w12 W11.heap.size gB nd cB D) := hO12; clear hO12 hg12 HBA HE0 hwA)
                | (at_builtin; refine wpList_app_ents rfl _ _ rfl W11.heap.size w.heap.size gB nd cB D rfl HO12.out al nl cl V rfl (HV11.out.below HB12.out) (by omega) (by omega) NB HNB.out ?_; intro gB' cB' w13 hO13 hg13; have HB13 : Hid (Below W11.heap.size W11 w13) := below_row HB12.out hg13 HO12.out.lt.1; have HO13 : Hid (OwnE w13 W11.heap.size gB' NB cB' (D ++ V)) := hO13; clear hO13 hg13 HO12 HB12))
              have T13 : Hid (On2 w w13 g n c gs m cs gd nd cd gu cu gh ch L S D U Hh) := T11.out.below HB13.out
              have HA13 : Hid (OwnE w13 w.heap.size gA' NA cA' (D ++ U)) := HA11.out.below HB13.out
              have HV13 : Hid (OwnE w13 w.heap.size gB' NB cB' (D ++ V)) := HO13.out.mono T11.out.st.all.size
              clear T11 HV11 HA11 HB13 HO13
              obtain ⟨w14, hw14⟩ : ∃ w14, w14 = w13.alloc (.cells #[.int .i64 100000, .int .i64 50, .int .i64 7] 3) := ⟨_, rfl⟩
              have k14 : Below w13.heap.size w13 w14 := by rw [hw14]; exact (Below.refl _ _).alloc (Nat.le_refl _) _
              have HX14 : Hid (OwnN w14 w13.heap.size w13.heap.size 3 3 [100000, 50, 7]) := by rw [hw14]; exact own_three w13 _ (Nat.le_refl _)
              have HK14 : Hid (Below w13.heap.size w13 w14) := k14
              have HH14 : Hid (OwnN w14 w.heap.size gh m ch Hh) := T13.out.oh.below k14
              obtain ⟨NT, hNT⟩ : ∃ NT, NT = 3 + m := ⟨_, rfl⟩
              clear k14
              go_upto_region 29 with (at_builtin; rw [← hw14]; refine wpList_append_own_at _ rfl _ _ 23 rfl w13.heap.size 3 j0 _ 1 8 Try.underlying23 hj hy0 hy1 hy2 rfl (by decide) _ _ _ rfl HX14.out.owns ⟨gh, 0, none⟩ m ch (Hh.map (Value.int .i64)) rfl (by rw [List.length_map, HHN.out]; omega) (ints_newsN HH14.out.ints) (fun u hu => by obtain ⟨q, _, rfl⟩ := List.mem_map.1 hu; rfl) (by unfold maxLen; omega) (by omega) (HK14.out.size) ?_; intro v15 w15 hown15 hgrow15 hnil15 hat15; obtain ⟨gt, ct, rfl⟩ := on_some hown15 hnil15; obtain ⟨HT15, HK15⟩ : Hid (OwnN w15 w13.heap.size gt (3 + m) ct (100000 :: 50 :: 7 :: Hh)) ∧ Hid (Below w13.heap.size w13 w15) := onT HX14.out HH14.out HK14.out hown15 hgrow15; clear hown15 hgrow15 hnil15 hat15 HX14 HK14 HH14 hw14)
              rw [← hNT] at HT15
              try rw [← hNT]
              have HA15 : Hid (OwnE w15 w.heap.size gA' NA cA' (D ++ U)) := HA13.out.below HK15.out
              have HV15 : Hid (OwnE w15 w.heap.size gB' NB cB' (D ++ V)) := HV13.out.below HK15.out
              have HB15 : Hid (Below w.heap.size w w15) := (T13.out.below HK15.out).st.all
              obtain ⟨TT, hTT⟩ : ∃ TT, TT = 100000 :: 50 :: 7 :: Hh := ⟨_, rfl⟩
              rw [← hTT] at HT15
              have HCE' : Hid (∀ t ∈ TT, cellL (D ++ V) key t = cellL (D ++ U) key t) := fun t ht => HCE.out t (by
                rw [hTT] at ht
                simp only [List.mem_cons] at ht
                rcases ht with rfl | rfl | rfl | ht
                · exact .inr (.inl rfl)
                · exact .inr (.inr (by decide))
                · exact .inr (.inr (by decide))
                · exact .inl ht)
              have hNT5 : NT ≤ 1048576 := by omega
              have HUT : Hid (∀ e ∈ D ++ U, e.2.2.2.1.size ≤ 281474976710656) := fun e he => by
                rcases List.mem_append.1 he with h | h
                · exact HDS.out e h
                · exact (HUS.out e h).2
              have HVT : Hid (∀ e ∈ D ++ V, e.2.2.2.1.size ≤ 281474976710656) := fun e he => by
                rcases List.mem_append.1 he with h | h
                · exact HDS.out e h
                · exact (HVS.out e h).2
              obtain ⟨W15, hW15⟩ : ∃ W15, W15 = w15 := ⟨_, rfl⟩
              subst hW15
              clear T13 HA13 HV13 HK15 hTT HCE HDS HUS HVS HNA HNB hNT HHN HDO HDX HSS HLN HSN HDN HFL HUL
              go_wp2
              go_loopw [22] (fun kv wr => ∃ k : Nat, k ≤ NT ∧ kv = .int .i64 k ∧ Below W15.heap.size W15 wr) (fun kv _ => NT - (intOf kv).toNat)
              case atStart => exact ⟨0, Nat.zero_le _, rfl, Below.refl _ _⟩
              case round =>
                obtain ⟨k, hkn, rfl, hB⟩ := hrel
                have HB : Hid (Below W15.heap.size W15 wr) := hB
                clear hB
                by_cases hkl : k < NT
                · have hklI : (k : Int) < (NT : Int) := by omega
                  have zt : gt < wr.heap.size := Nat.lt_of_lt_of_le HT15.out.lt.2 HB.out.size
                  obtain ⟨tt, htt, _, e0⟩ := HT15.out.ints.num HB.out k hkl
                  simp only [Nat.zero_add] at e0
                  obtain ⟨xb, xt, xn, hcl⟩ : ∃ xb xt xn, cellL (D ++ U) key tt = (xb, xt, xn) := ⟨_, _, _, rfl⟩
                  have hcf : cellL (D ++ V) key tt = (xb, xt, xn) := by rw [HCE'.out tt (List.mem_of_getElem? htt), hcl]
                  have CL : Hid (∀ w', Below wr.heap.size wr w' → Calls Try.prog 22 #[.slice (some ⟨gA', 0, none⟩) NA cA', .string key, .int .i64 tt] w' fun e w'' => e = .returned (.agg #[.bool xb, .string xt, .int .i64 xn]) ∧ Below w'.heap.size w' w'') := fun w' kk => by
                    have := implCellAll (some ⟨gA', 0, none⟩) NA cA' (D ++ U) key tt w' ((HA15.out.below HB.out).below kk).entsAt (by omega) HUT.out
                    rw [hcl] at this
                    exact this
                  have CO : Hid (∀ w', Below wr.heap.size wr w' → Calls Try.prog 22 #[.slice (some ⟨gB', 0, none⟩) NB cB', .string key, .int .i64 tt] w' fun e w'' => e = .returned (.agg #[.bool xb, .string xt, .int .i64 xn]) ∧ Below w'.heap.size w' w'') := fun w' kk => by
                    have := implCellAll (some ⟨gB', 0, none⟩) NB cB' (D ++ V) key tt w' ((HV15.out.below HB.out).below kk).entsAt (by omega) HVT.out
                    rw [hcf] at this
                    exact this
                  have hneq := neqC_same xb xt xn
                  have k0 : Below wr.heap.size wr wr.drew := (Below.refl _ wr).drew
                  have HMK : Hid (∀ w', Below wr.heap.size wr w' → (w'.cell? ⟨gt, k, none⟩ = some (.int .i64 tt) ∧ gt < w'.heap.size)) := fun w' kk => ⟨cell_later kk e0, Nat.lt_of_lt_of_le zt kk.size⟩
                  clear htt e0 hcl hcf
                  go_wp2_with fail
                  refine wp_region_held_drew (S := (fun w' => w'.cell? ⟨gt, k, none⟩ = some (.int .i64 tt) ∧ gt < w'.heap.size)) (by kernel_rfl) (HMK.out _ k0) (fun hHeld => ?_)
                  refine wpAnyH_takeL (i := 0) (v := ?_) rfl (by kernel_rfl) (by kernel_rfl) (by kernel_rfl) (fun _ _ _ h => h) (Or.inl ⟨by rfl, ?_⟩) hHeld ?_
                  rotate_left
                  · (intro w hSw; (try dsimp only at hSw); go_simp; try with_reducible rfl)
                  try go_frame
                  refine wpAnyH_takeL (i := 1) (v := ?_) rfl (by kernel_rfl) (by kernel_rfl) (by kernel_rfl) (fun _ _ _ h => h) (Or.inl ⟨by rfl, ?_⟩) hHeld ?_
                  rotate_left
                  · (intro w hSw; (try dsimp only at hSw); go_simp; try with_reducible rfl)
                  try go_frame
                  refine wpAnyH_takeL (i := 2) (v := ?_) rfl (by kernel_rfl) (by kernel_rfl) (by kernel_rfl) (fun _ _ _ h => h) (Or.inl ⟨by rfl, ?_⟩) hHeld ?_
                  rotate_left
                  · (intro w hSw; (try dsimp only at hSw); go_simp; try with_reducible rfl)
                  try go_frame
                  refine wpAnyH_takeL (i := 3) (v := ?_) rfl (by kernel_rfl) (by kernel_rfl) (by kernel_rfl) (fun _ _ _ h => h) (Or.inl ⟨by rfl, ?_⟩) hHeld ?_
                  rotate_left
                  · (intro w hSw; (try dsimp only at hSw); go_simp; try with_reducible rfl)
                  try go_frame
                  refine wpAnyH_takeL (i := 4) (v := ?_) rfl (by kernel_rfl) (by kernel_rfl) (by kernel_rfl) (fun _ _ _ h => h) (Or.inl ⟨by rfl, ?_⟩) hHeld ?_
                  rotate_left
                  · (intro w hSw; (try dsimp only at hSw); go_simp; try with_reducible rfl)
                  try go_frame
                  refine wpAnyH_takeL (i := 5) (v := ?_) rfl (by kernel_rfl) (by kernel_rfl) (by kernel_rfl) (fun _ _ _ h => h) (Or.inl ⟨by rfl, ?_⟩) hHeld ?_
                  rotate_left
                  · (intro w hSw; (try dsimp only at hSw); go_simp; try with_reducible rfl)
                  try go_frame
                  refine wpAnyH_takeL (i := 7) (v := ?_) rfl (by kernel_rfl) (by kernel_rfl) (by kernel_rfl) (fun _ _ _ h => h) (Or.inl ⟨by rfl, ?_⟩) hHeld ?_
                  rotate_left
                  · (intro w hSw; (try dsimp only at hSw); go_simp; try with_reducible rfl)
                  try go_frame
                  refine wpAnyH_takeL (i := 8) (v := ?_) rfl (by kernel_rfl) (by kernel_rfl) (by kernel_rfl) (fun _ _ _ h => h) (Or.inl ⟨by rfl, ?_⟩) hHeld ?_
                  rotate_left
                  · (intro w hSw; (try dsimp only at hSw); go_simp; try with_reducible rfl)
                  try go_frame
                  refine wpAnyH_takeL (i := 9) (v := ?_) rfl (by kernel_rfl) (by kernel_rfl) (by kernel_rfl) (fun _ _ _ h => h) (Or.inl ⟨by rfl, ?_⟩) hHeld ?_
                  rotate_left
                  · (intro w hSw; (try dsimp only at hSw); go_simp; try with_reducible rfl)
                  try go_frame
                  refine wpAnyH_takeL (i := 10) (v := ?_) rfl (by kernel_rfl) (by kernel_rfl) (by kernel_rfl) (fun _ _ _ h => h) (Or.inl ⟨by rfl, ?_⟩) hHeld ?_
                  rotate_left
                  · (intro w hSw; (try dsimp only at hSw); go_simp; try with_reducible rfl)
                  try go_frame
                  refine wpAnyH_takeL (i := 11) (v := ?_) rfl (by kernel_rfl) (by kernel_rfl) (by kernel_rfl) (fun _ _ _ h => h) (Or.inl ⟨by rfl, ?_⟩) hHeld ?_
                  rotate_left
                  · (intro w hSw; (try dsimp only at hSw); go_simp; try with_reducible rfl)
                  try go_frame
                  refine wpAnyH_takeL (i := 12) (v := ?_) rfl (by kernel_rfl) (by kernel_rfl) (by kernel_rfl) (fun _ _ _ h => h) (Or.inl ⟨by rfl, ?_⟩) hHeld ?_
                  rotate_left
                  · (intro w hSw; (try dsimp only at hSw); go_simp; try with_reducible rfl)
                  try go_frame
                  refine wpAnyH_ready (rs := [6]) (by kernel_rfl) (by simp) ?_
                  refine consL rfl (fun K hK => ?_) AllReadyH.nil
                  go_simp
                  refine (CL.out _ k0).mono ?_
                  rintro e w1 ⟨rfl, b1⟩
                  have k1 : Below wr.heap.size wr w1 := k0.trans (b1.mono k0.size)
                  go_wp2_with fail
                  refine hK.out _ _ (HMK.out _ k1) (fun hHeld => ?_)
                  clear hK K
                  try go_frame
                  refine wpAnyH_ready (rs := [13]) (by kernel_rfl) (by simp) ?_
                  refine consL rfl (fun K hK => ?_) AllReadyH.nil
                  go_simp
                  refine (CO.out _ k1).mono ?_
                  rintro e w2 ⟨rfl, b2⟩
                  have k2 : Below wr.heap.size wr w2 := k1.trans (b2.mono k1.size)
                  go_wp2_with fail
                  refine hK.out _ _ (HMK.out _ k2) (fun hHeld => ?_)
                  clear hK K
                  try go_frame
                  refine wpAnyH_takeL (i := 14) (v := ?_) rfl (by kernel_rfl) (by kernel_rfl) (by kernel_rfl) (fun _ _ _ h => h) (Or.inl ⟨by rfl, ?_⟩) hHeld ?_
                  rotate_left
                  · (intro w hSw; (try dsimp only at hSw); go_simp; try with_reducible rfl)
                  try go_frame
                  refine wpAnyH_done (by kernel_rfl) ?_ _
                  clear HMK hHeld
                  have HB2 : Hid (Below W15.heap.size W15 w2) := HB.out.trans (k2.mono HB.out.size)
                  clear k1 k2 k0 b1 b2 HB CL CO hneq zt
                  go_wp2
                  go_roundw
                  case rel => exact ⟨k + 1, by omega, by go_num, HB2.out⟩
                  case measure => simp [intOf] <;> omega
                · have hklI : ¬ (k : Int) < (NT : Int) := by omega
                  go_wp2
                  go_ret
                  exact ⟨rfl, HB15.out.trans (HB.out.mono HB15.out.size)⟩
end Go.Proofs.Ythhiahjafhkbbaa
