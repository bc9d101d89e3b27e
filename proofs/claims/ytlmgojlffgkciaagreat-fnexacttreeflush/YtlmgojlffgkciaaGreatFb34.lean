/-
  What is left of entries stays as it is when it is squashed again. Plain.
  What is squashed of a right list is right: plain facts.
  Rows of entries as the library's sorts see them. No function of the program is walked here.
  Contracts of the library's slices package at this program, laid by the kit's own command.
  Contracts of the library's slices package at this program, laid by the kit's own command.
  The library's copy and its sort, at rows of entries: what they leave.
-/
import Derived.Test.YtlmgojlffgkciaaGreatFb33
import Derived.Test.YtlmgojlffgkciaaGreatFb28
import Derived.Test.YtlmgojlffgkciaaGreatFb01
import Derived.Ground.SlsfProg
import Derived.Shelf.SlSortCmp.WholeK
import Derived.Test.YtlmgojlffgkciaaGreatProg
import Derived.Ground.SlgnProg
import Derived.Shelf.SlicesE.Clone
namespace Go.Proofs.YtlmgojlffgkciaaGreat

/-! One class and its one entry. -/
/-- A number that is not great. -/
def Lit2 (e : EntD) : Prop := -2000 ≤ e.2.2.2.2 ∧ e.2.2.2.2 ≤ 2000
theorem join_sum : ∀ (L : List EntD) (f : Bool) (acc : Int), (∀ e ∈ L, Lit2 e) → acc - 2000 * (L.length : Int) ≤ (joinG f acc L).2.2 ∧ (joinG f acc L).2.2 ≤ acc + 2000 * (L.length : Int)
  | [], f, acc, _ => by simp [joinG]
  | e :: R, f, acc, h => by
    have h1 := h e List.mem_cons_self
    unfold Lit2 at h1
    have ih := join_sum R false (acc + e.2.2.2.2) (fun x hx => h x (List.mem_cons_of_mem _ hx))
    have hl : ((e :: R).length : Int) = (R.length : Int) + 1 := by simp
    unfold joinG
    rw [hl]
    split
    · simp only; omega
    · split
      · simp only; omega
      · omega
/-- What an entry that stands for a class looks like. -/
def OneE (e : EntD) : Prop := sumOkB e.2.2.2.2 = true ∧ (e.2.2.1 = 1 ∨ (e.2.2.1 = 2 ∧ e.2.2.2.1 = ⟨#[]⟩ ∧ e.2.2.2.2 = 0) ∨ (e.2.2.1 = 3 ∧ e.2.2.2.1 = ⟨#[]⟩))
theorem join_kind : ∀ (L : List EntD) (acc : Int), (∀ e ∈ L, KdE e) → (joinG false acc L).1 = 1 ∨ ((joinG false acc L).1 = 3 ∧ (joinG false acc L).2.1 = ⟨#[]⟩) := fun L acc h => (join_more L acc noC h).2
theorem join_first (e : EntD) (R : List EntD) (h : ∀ x ∈ e :: R, KdE x) : (joinG true 0 (e :: R)).1 = 1 ∨ ((joinG true 0 (e :: R)).1 = 2 ∧ (joinG true 0 (e :: R)).2.1 = ⟨#[]⟩ ∧ (joinG true 0 (e :: R)).2.2 = 0) ∨ ((joinG true 0 (e :: R)).1 = 3 ∧ (joinG true 0 (e :: R)).2.1 = ⟨#[]⟩) := by
  obtain ⟨hk, h0⟩ := h e List.mem_cons_self
  rcases hk with hk | hk | hk
  · have hj : joinG true 0 (e :: R) = (1, e.2.2.2.1, 0 + e.2.2.2.2) := by simp [joinG, hk]
    rw [hj]; exact .inl rfl
  · have hj : joinG true 0 (e :: R) = (2, ⟨#[]⟩, 0 + e.2.2.2.2) := by simp [joinG, hk]
    rw [hj, h0 hk]; exact .inr (.inl ⟨rfl, rfl, rfl⟩)
  · have hj : joinG true 0 (e :: R) = joinG false (0 + e.2.2.2.2) R := by
      conv => lhs; unfold joinG
      rw [if_neg (by omega), if_neg (by omega)]
    rw [hj]
    rcases join_kind R (0 + e.2.2.2.2) (fun x hx => h x (List.mem_cons_of_mem _ hx)) with h1 | h1
    · exact .inl h1
    · exact .inr (.inr h1)
/-- Of a class whose sum can be held one entry is left or none. -/
theorem class_one (b : Bool) (e : EntD) (R : List EntD) (h : ∀ x ∈ e :: R, KdE x) (hs : sumOkB (joinG true 0 (e :: R)).2.2 = true) : clS b (e :: R) = [] ∨ ∃ x, clS b (e :: R) = [x] ∧ x.1 = e.1 ∧ x.2.1 = e.2.1 ∧ OneE x ∧ (b = true → x.2.2.1 = 1) := by
  show classG b e.1 e.2.1 (e :: R) = [] ∨ ∃ x, classG b e.1 e.2.1 (e :: R) = [x] ∧ _
  have hf := join_first e R h
  unfold classG
  rw [if_pos hs]
  obtain ⟨d, t, s, hj⟩ : ∃ d t s, joinG true 0 (e :: R) = (d, t, s) := ⟨_, _, _, rfl⟩
  rw [hj] at hs hf ⊢
  simp only at hs hf ⊢
  by_cases h2 : b = true ∧ d = 2
  · rw [if_pos h2]; exact .inl rfl
  · rw [if_neg h2]
    refine .inr ⟨_, rfl, rfl, rfl, ?_, ?_⟩
    · refine ⟨hs, ?_⟩
      by_cases h3 : b = true ∧ d = 3
      · rw [if_pos h3]; exact .inl rfl
      · rw [if_neg h3]; exact hf
    · intro hb
      show (if b = true ∧ d = 3 then 1 else d) = 1
      by_cases h3 : b = true ∧ d = 3
      · rw [if_pos h3]
      · rw [if_neg h3]
        rcases hf with h | h | h
        · exact h
        · exact absurd ⟨hb, h.1⟩ h2
        · exact absurd ⟨hb, h.1⟩ h3
/-- Such an entry stays as it is. -/
theorem one_stays (b : Bool) (x : EntD) (h : OneE x) (hb : b = true → x.2.2.1 = 1) : clS b [x] = [x] := by
  obtain ⟨s, q, d, t, m⟩ := x
  obtain ⟨hs, hk⟩ := h
  simp only at hs hk hb
  show classG b s q [(s, q, d, t, m)] = _
  unfold classG
  rcases hk with hk | ⟨hk, ht, hn⟩ | ⟨hk, ht⟩
  · subst hk
    have hj : joinG true 0 [(s, q, (1 : Int), t, m)] = (1, t, m) := by simp [joinG]
    rw [hj, if_pos hs, if_neg (by simp)]
    simp
  · subst hk
    subst ht
    subst hn
    have hbf : b = false := by
      cases b with
      | false => rfl
      | true => have := hb rfl; omega
    subst hbf
    have hj : joinG true 0 [(s, q, (2 : Int), (⟨#[]⟩ : ByteArray), (0 : Int))] = (2, ⟨#[]⟩, 0) := by simp [joinG]
    rw [hj, if_pos hs, if_neg (by simp)]
    simp
  · subst hk
    subst ht
    have hbf : b = false := by
      cases b with
      | false => rfl
      | true => have := hb rfl; omega
    subst hbf
    have hj : joinG true 0 [(s, q, (3 : Int), (⟨#[]⟩ : ByteArray), m)] = (3, ⟨#[]⟩, m) := by simp [joinG]
    rw [hj, if_pos hs, if_neg (by simp)]
    simp

/-! The classes of a key. -/
/-- Between two parts the ask is answered no. -/
def Edges (r : EntD → EntD → Bool) : List (List EntD) → Prop
  | c :: d :: cs => (∀ x y, c.getLast? = some x → d.head? = some y → r x y = false) ∧ Edges r (d :: cs)
  | _ => True
theorem Edges.tail {r : EntD → EntD → Bool} {c : List EntD} {cs : List (List EntD)} (h : Edges r (c :: cs)) : Edges r cs := by
  cases cs with
  | nil => trivial
  | cons d cs => exact h.2
theorem parts_edges (r : EntD → EntD → Bool) : ∀ L : List EntD, Edges r (Sq.parts r L)
  | [] => trivial
  | x :: L => by
    have ih := parts_edges r L
    rw [Sq.parts_cons]
    unfold Sq.putP
    split
    · rename_i y c cs hp
      rw [hp] at ih
      by_cases hr : r x y = true
      · rw [if_pos hr]
        cases cs with
        | nil => trivial
        | cons d cs => exact ⟨fun a b ha hb => ih.1 a b (by rw [List.getLast?_cons_cons] at ha; exact ha) hb, ih.2⟩
      · rw [if_neg hr]
        refine ⟨fun a b ha hb => ?_, ih⟩
        simp at ha hb
        subst ha
        subst hb
        exact Bool.eq_false_iff.2 hr
    · rename_i hno
      cases L with
      | nil => trivial
      | cons w R =>
        obtain ⟨c, cs, hp⟩ := Sq.parts_head r w R
        exact absurd hp (hno _ _ _)
theorem head_top {c : List EntD} {cs : List (List EntD)} {e : EntD} {R : List EntD} (hc : c = e :: R) (hp : (c :: cs).flatten.Pairwise (fun a b => b.2.1 < a.2.1)) : (∀ x ∈ c, x.2.1 ≤ e.2.1) ∧ ∀ d ∈ cs, ∀ y ∈ d, ∀ x ∈ c, y.2.1 < x.2.1 := by
  subst hc
  rw [List.flatten_cons] at hp
  obtain ⟨p1, _, p3⟩ := List.pairwise_append.1 hp
  refine ⟨fun x hx => ?_, fun d hd y hy x hx => p3 x hx y (List.mem_flatten.2 ⟨d, hd, hy⟩)⟩
  rcases List.mem_cons.1 hx with rfl | hx
  · exact Int.le_refl _
  · exact Int.le_of_lt ((List.pairwise_cons.1 p1).1 x hx)
theorem key_again (S : List Int) (bottom : Bool) : ∀ Cs : List (List EntD), (∀ c ∈ Cs, c ≠ []) → Edges (cutB S) Cs → Cs.flatten.Pairwise (fun a b => b.2.1 < a.2.1) → (∀ c ∈ Cs, ∀ e ∈ c, KdE e) → Cs.flatten.length ≤ 100 →
    (∀ e ∈ (Cs.foldr (Sq.stepD clS) (bottom, [])).2, Lit2 e) →
    Sq.parts (cutB S) (Cs.foldr (Sq.stepD clS) (bottom, [])).2 = (Cs.foldr (Sq.stepD clS) (bottom, [])).2.map (fun x => [x]) ∧
    ((Cs.foldr (Sq.stepD clS) (bottom, [])).2.map (fun x => [x])).foldr (Sq.stepD clS) (bottom, []) = Cs.foldr (Sq.stepD clS) (bottom, []) ∧
    (∀ y c, (Cs.foldr (Sq.stepD clS) (bottom, [])).2.head? = some y → Cs.head? = some c → ∀ e, c.head? = some e → y.2.1 ≤ e.2.1)
  | [], _, _, _, _, _, _ => ⟨rfl, rfl, fun y c h => by cases h⟩
  | c :: Cs, hne, hE, hp, hk, hl, hN => by
    have hp' : Cs.flatten.Pairwise (fun a b => b.2.1 < a.2.1) := by rw [List.flatten_cons] at hp; exact (List.pairwise_append.1 hp).2.1
    have hl' : c.length + Cs.flatten.length ≤ 100 := by rw [List.flatten_cons, List.length_append] at hl; exact hl
    obtain ⟨bb, R, hst⟩ : ∃ bb R, Cs.foldr (Sq.stepD clS) (bottom, []) = (bb, R) := ⟨_, _, rfl⟩
    have hstep : (c :: Cs).foldr (Sq.stepD clS) (bottom, []) = (if (clS bb c).isEmpty then bb else false, clS bb c ++ R) := by rw [List.foldr_cons, hst]; rfl
    rw [hstep] at hN ⊢
    simp only at hN ⊢
    have ih := key_again S bottom Cs (fun x hx => hne x (List.mem_cons_of_mem _ hx)) hE.tail hp' (fun x hx => hk x (List.mem_cons_of_mem _ hx)) (by omega) (by rw [hst]; exact fun e he => hN e (List.mem_append_right _ he))
    rw [hst] at ih
    simp only at ih
    obtain ⟨i1, i2, i3⟩ := ih
    obtain ⟨e, T, hc⟩ := List.exists_cons_of_ne_nil (hne c List.mem_cons_self)
    have hkc := hk c List.mem_cons_self
    have hs : sumOkB (joinG true 0 c).2.2 = true := by
      by_cases h : sumOkB (joinG true 0 c).2.2 = true
      · exact h
      · exfalso
        have hcl : clS bb c = c := by
          rw [hc] at h ⊢
          show classG bb e.1 e.2.1 (e :: T) = _
          unfold classG
          rw [if_neg h]
        have hb := join_sum c true 0 (fun x hx => hN x (List.mem_append_left _ (by rw [hcl]; exact hx)))
        apply h
        simp only [sumOkB, Bool.and_eq_true, decide_eq_true_eq]
        omega
    have ho := class_one bb e T (by rw [← hc]; exact hkc) (by rw [← hc]; exact hs)
    rw [← hc] at ho
    rcases ho with ho | ⟨x, ho, hx1, hx2, hx3, hx4⟩
    · rw [ho]
      simp only [List.isEmpty_nil, if_true, List.nil_append]
      refine ⟨i1, i2, fun y c' hy hc' e' he' => ?_⟩
      simp at hc'
      subst hc'
      rw [hc] at he'
      simp at he'
      subst he'
      cases Cs with
      | nil => simp at hst; obtain ⟨_, rfl⟩ := hst; cases hy
      | cons d Ds =>
        have hd := hne d (List.mem_cons_of_mem _ List.mem_cons_self)
        obtain ⟨f, U, hdf⟩ := List.exists_cons_of_ne_nil hd
        have h1 := i3 y d hy rfl f (by rw [hdf]; rfl)
        have h2 := (head_top hc hp).2 d List.mem_cons_self f (by rw [hdf]; exact List.mem_cons_self) e (by rw [hc]; exact List.mem_cons_self)
        omega
    · rw [ho]
      simp only [List.isEmpty_cons, Bool.false_eq_true, if_false, List.cons_append, List.nil_append, List.map_cons, List.foldr_cons]
      refine ⟨?_, ?_, fun y c' hy hc' e' he' => ?_⟩
      · rw [Sq.parts_cons, i1]
        cases R with
        | nil => rfl
        | cons y R' =>
          cases Cs with
          | nil => simp at hst
          | cons d Ds =>
            have hd := hne d (List.mem_cons_of_mem _ List.mem_cons_self)
            obtain ⟨f, U, hdf⟩ := List.exists_cons_of_ne_nil hd
            have h1 := i3 y d rfl rfl f (by rw [hdf]; rfl)
            obtain ⟨z, hz⟩ : ∃ z, c.getLast? = some z := by rw [hc]; exact ⟨_, List.getLast?_eq_some_getLast (by simp)⟩
            have hzc : z ∈ c := List.mem_of_getLast? hz
            have h2 := hE.1 z f hz (by rw [hdf]; rfl)
            have h3 := (head_top hc hp).1 z hzc
            have hcut : cutB S x y = false := by
              unfold cutB at h2 ⊢
              simp only [Bool.not_eq_false'] at h2 ⊢
              unfold apartB at h2 ⊢
              obtain ⟨s, hs1, hs2⟩ := List.any_eq_true.1 h2
              simp only [Bool.and_eq_true, decide_eq_true_eq] at hs2
              exact List.any_eq_true.2 ⟨s, hs1, by simp only [Bool.and_eq_true, decide_eq_true_eq]; omega⟩
            simp [Sq.putP, hcut]
      · rw [i2]
        unfold Sq.stepD
        simp only [one_stays bb x hx3 hx4, List.isEmpty_cons, Bool.false_eq_true, if_false, List.cons_append, List.nil_append]
      · simp at hy hc'
        subst hy
        subst hc'
        rw [hc] at he'
        simp at he'
        subst he'
        omega

/-! All keys. -/
theorem left_nil (S : List Int) (bottom : Bool) : leftS S bottom [] = [] := rfl
theorem single_parts {H : List EntD} {k : ByteArray} (h : ∀ e ∈ H, e.1 = k) (hne : H ≠ []) : Sq.parts keyEq H = [H] :=
  Sq.parts_chain _ _ hne (fun j x y hx hy => decide_eq_true (by rw [h x (List.mem_of_getElem? hx), h y (List.mem_of_getElem? hy)]))
theorem groups_again (f f' : List EntD → List EntD) (hf : ∀ G, ∀ x ∈ f G, ∃ y ∈ G, x.1 = y.1) (hf' : f' [] = []) : ∀ Gs : List (List EntD), Gs.Pairwise (fun G H => ∀ x ∈ G, ∀ y ∈ H, x.1 ≠ y.1) → (∀ G ∈ Gs, ∃ k, ∀ e ∈ G, e.1 = k) →
    (Sq.parts keyEq (Gs.flatMap f)).flatMap f' = Gs.flatMap (fun G => f' (f G))
  | [], _, _ => rfl
  | G :: Gs, hp, hk => by
    obtain ⟨p1, p2⟩ := List.pairwise_cons.1 hp
    have ih := groups_again f f' hf hf' Gs p2 (fun x hx => hk x (List.mem_cons_of_mem _ hx))
    rw [List.flatMap_cons, List.flatMap_cons, Sq.parts_app, List.flatMap_append, ih]
    · congr 1
      by_cases hne : f G = []
      · rw [hne, hf']; rfl
      · obtain ⟨k, hkG⟩ := hk G List.mem_cons_self
        rw [single_parts (k := k) (fun e he => by obtain ⟨y, hy, h1⟩ := hf G e he; rw [h1]; exact hkG y hy) hne]
        simp
    · intro x y hx hy
      have hx' := List.mem_of_getLast? hx
      have hy' : y ∈ Gs.flatMap f := List.mem_of_head? hy
      obtain ⟨H, hH, hyH⟩ := List.mem_flatMap.1 hy'
      obtain ⟨a, ha, e1⟩ := hf G x hx'
      obtain ⟨b, hb, e2⟩ := hf H y hyH
      show decide (x.1 = y.1) = false
      rw [e1, e2]
      exact decide_eq_false (p1 H hH a ha b hb)
theorem right_kd {L : List EntD} (hr : rightB L = true) : ∀ e ∈ L, KdE e := fun e he => by
  obtain ⟨j, hj⟩ := List.getElem?_of_mem he
  have hb := right_ent hr hj
  unfold entB at hb
  simp only [Bool.and_eq_true, decide_eq_true_eq] at hb
  obtain ⟨_, _, _, _, _, _, h6⟩ := hb
  refine ⟨?_, ?_⟩
  · by_cases d1 : e.2.2.1 = 1
    · exact .inl d1
    · by_cases d2 : e.2.2.1 = 2
      · exact .inr (.inl d2)
      · by_cases d3 : e.2.2.1 = 3
        · exact .inr (.inr d3)
        · rw [kindB_0 d1 d2 d3] at h6; cases h6
  · intro d2
    rw [d2, kindB_2] at h6
    simp only [Bool.and_eq_true, decide_eq_true_eq] at h6
    exact h6.2
theorem group_desc {L : List EntD} (hp : L.Pairwise (fun a b => lessB a.1 a.2.1 b.1 b.2.1 = true)) {G : List EntD} (hG : G ∈ Sq.parts keyEq L) : G.Pairwise (fun a b => b.2.1 < a.2.1) := by
  obtain ⟨k, hk⟩ := group_key hG
  have hGs := Sq.parts_flat keyEq L
  obtain ⟨A, B, e⟩ := List.append_of_mem hG
  have h2 : G.Pairwise (fun a b => lessB a.1 a.2.1 b.1 b.2.1 = true) := by
    rw [← hGs, e] at hp
    simp only [List.flatten_append, List.flatten_cons] at hp
    exact (List.pairwise_append.1 (List.pairwise_append.1 hp).2.1).1
  exact List.Pairwise.imp_of_mem (fun {a b} ha hb h => less_time h (by rw [hk a ha, hk b hb])) h2
/-- What is left, with numbers that are not great, stays as it is. -/
theorem squash_again {L : List EntD} (hr : rightB L = true) (hl : L.length ≤ 100) (S : List Int) (bottom : Bool) (hr2 : rightB (squashL L S bottom) = true) (hN : ∀ e ∈ squashL L S bottom, Lit2 e) : squashL (squashL L S bottom) S bottom = squashL L S bottom := by
  have hp := right_pair hr
  have sq : ∀ M, rightB M = true → squashL M S bottom = (Sq.parts keyEq M).flatMap (leftS S bottom) := fun M h => by unfold squashL; rw [if_pos h]
  have e1 := sq L hr
  have e2 := sq _ hr2
  rw [e2, e1, groups_again (leftS S bottom) (leftS S bottom) (fun G x hx => by obtain ⟨y, hy, h1, _⟩ := left_mem S bottom G x hx; exact ⟨y, hy, h1⟩) (left_nil S bottom) _ (group_apart L hp) (fun G hG => group_key hG)]
  rw [List.flatMap_def, List.flatMap_def]
  congr 1
  refine List.map_congr_left (fun G hG => ?_)
  have hk := key_again S bottom (Sq.parts (cutB S) G) (part_ne _ _) (parts_edges _ _) (by rw [Sq.parts_flat]; exact group_desc hp hG) (fun c hc e he => right_kd hr e ((part_len _ _ G hG).2 e ((part_len _ _ c hc).2 e he))) (by rw [Sq.parts_flat]; have := (part_len _ _ G hG).1; omega) (fun e he => hN e (by rw [e1]; exact List.mem_flatMap.2 ⟨G, hG, he⟩))
  show Sq.leftD clS bottom (Sq.parts (cutB S) (Sq.leftD clS bottom (Sq.parts (cutB S) G))) = Sq.leftD clS bottom (Sq.parts (cutB S) G)
  unfold Sq.leftD
  rw [hk.1, hk.2.1]
/-- With no times kept there is one entry of a key at most. -/
theorem squash_one {M : List EntD} (hr : rightB M = true) (hl : M.length ≤ 100) (bottom : Bool) (hN : ∀ e ∈ M, Lit2 e) : (squashL M [] bottom).Pairwise (fun a b => a.1 ≠ b.1) := by
  have hp := right_pair hr
  unfold squashL
  rw [if_pos hr]
  have key : ∀ Gs : List (List EntD), Gs.Pairwise (fun G H => ∀ x ∈ G, ∀ y ∈ H, x.1 ≠ y.1) → (∀ G ∈ Gs, G ≠ [] ∧ G.length ≤ 100 ∧ (∀ e ∈ G, KdE e ∧ Lit2 e)) → (Gs.flatMap (leftS [] bottom)).Pairwise (fun a b => a.1 ≠ b.1) := by
    intro Gs
    induction Gs with
    | nil => intro _ _; exact List.Pairwise.nil
    | cons G Gs ih =>
      intro hp h
      obtain ⟨p1, p2⟩ := List.pairwise_cons.1 hp
      obtain ⟨hne, hlen, hG⟩ := h G List.mem_cons_self
      rw [List.flatMap_cons]
      refine List.pairwise_append.2 ⟨?_, ih p2 (fun x hx => h x (List.mem_cons_of_mem _ hx)), fun x hx y hy => ?_⟩
      · have hc : Sq.parts (cutB []) G = [G] := Sq.parts_chain _ _ hne (fun j x y _ _ => rfl)
        obtain ⟨e, T, hGe⟩ := List.exists_cons_of_ne_nil hne
        have hb := join_sum G true 0 (fun x hx => (hG x hx).2)
        have hs : sumOkB (joinG true 0 G).2.2 = true := by
          simp only [sumOkB, Bool.and_eq_true, decide_eq_true_eq]
          omega
        have hL : leftS [] bottom G = clS bottom G := by
          unfold leftS Sq.leftD
          rw [hc]
          show clS bottom G ++ [] = _
          rw [List.append_nil]
        rw [hL]
        have ho := class_one bottom e T (by rw [← hGe]; exact fun x hx => (hG x hx).1) (by rw [← hGe]; exact hs)
        rw [← hGe] at ho
        rcases ho with ho | ⟨x, ho, _⟩
        · rw [ho]; exact List.Pairwise.nil
        · rw [ho]; exact List.pairwise_singleton _ _
      · obtain ⟨a, ha, h1, _⟩ := left_mem [] bottom G x hx
        obtain ⟨H, hH, hyH⟩ := List.mem_flatMap.1 hy
        obtain ⟨b, hb, h2, _⟩ := left_mem [] bottom H y hyH
        rw [h1, h2]
        exact p1 H hH a ha b hb
  exact key _ (group_apart M hp) (fun G hG => ⟨part_ne _ _ G hG, by have := (part_len _ _ G hG).1; omega, fun e he => ⟨right_kd hr e ((part_len _ _ G hG).2 e he), hN e ((part_len _ _ G hG).2 e he)⟩⟩)
theorem join_sumB (B : Int) (hB : 0 ≤ B) : ∀ (L : List EntD) (f : Bool) (acc : Int), (∀ e ∈ L, -B ≤ e.2.2.2.2 ∧ e.2.2.2.2 ≤ B) → acc - B * (L.length : Int) ≤ (joinG f acc L).2.2 ∧ (joinG f acc L).2.2 ≤ acc + B * (L.length : Int)
  | [], f, acc, _ => by simp [joinG]
  | e :: R, f, acc, h => by
    have h1 := h e List.mem_cons_self
    have ih := join_sumB B hB R false (acc + e.2.2.2.2) (fun x hx => h x (List.mem_cons_of_mem _ hx))
    have hl : B * ((e :: R).length : Int) = B * (R.length : Int) + B := by simp [Int.mul_add]
    have hp : 0 ≤ B * (R.length : Int) := Int.mul_nonneg hB (by omega)
    unfold joinG
    rw [hl]
    split
    · simp only; omega
    · split
      · simp only; omega
      · omega
theorem join_text60 : ∀ (L : List EntD) (f : Bool) (acc : Int), (∀ e ∈ L, e.2.2.2.1.size ≤ 60) → (joinG f acc L).2.1.size ≤ 60 := by
  intro L
  induction L with
  | nil => intro f acc _; exact Nat.zero_le _
  | cons e R ih =>
    intro f acc h
    unfold joinG
    split
    · exact h e (List.mem_cons_self ..)
    · split
      · exact Nat.zero_le _
      · exact ih false _ (fun x hx => h x (List.mem_cons_of_mem _ hx))
def entE (e : EntD) : Bool := entB e.1 e.2.1 e.2.2.1 e.2.2.2.1 e.2.2.2.2
theorem entE_kd {e : EntD} (h : entE e = true) : KdE e ∧ e.2.2.2.1.size ≤ 60 := by
  unfold entE entB at h
  simp only [Bool.and_eq_true, decide_eq_true_eq] at h
  obtain ⟨_, _, _, _, _, h5, h6⟩ := h
  refine ⟨⟨?_, ?_⟩, h5⟩
  · by_cases d1 : e.2.2.1 = 1
    · exact .inl d1
    · by_cases d2 : e.2.2.1 = 2
      · exact .inr (.inl d2)
      · by_cases d3 : e.2.2.1 = 3
        · exact .inr (.inr d3)
        · rw [kindB_0 d1 d2 d3] at h6; cases h6
  · intro d2
    rw [d2, kindB_2] at h6
    simp only [Bool.and_eq_true, decide_eq_true_eq] at h6
    exact h6.2
theorem cl_ent (b : Bool) : ∀ c : List EntD, (∀ e ∈ c, entE e = true) → ∀ x ∈ clS b c, entE x = true
  | [], _, x, hx => by cases hx
  | e :: R, h, x, hx => by
    by_cases hs : sumOkB (joinG true 0 (e :: R)).2.2 = true
    · have he := h e List.mem_cons_self
      have ht := join_text60 (e :: R) true 0 (fun y hy => (entE_kd (h y hy)).2)
      have hf := join_first e R (fun y hy => (entE_kd (h y hy)).1)
      have hx' : x ∈ classG b e.1 e.2.1 (e :: R) := hx
      unfold classG at hx'
      rw [if_pos hs] at hx'
      obtain ⟨d, t, s, hj⟩ : ∃ d t s, joinG true 0 (e :: R) = (d, t, s) := ⟨_, _, _, rfl⟩
      rw [hj] at hs hf ht hx'
      simp only at hs hf ht hx'
      by_cases h2 : b = true ∧ d = 2
      · rw [if_pos h2] at hx'; cases hx'
      · rw [if_neg h2] at hx'
        have hxe := List.mem_singleton.1 hx'
        rw [hxe]
        unfold entE entB at he ⊢
        simp only [Bool.and_eq_true, decide_eq_true_eq, sumOkB] at he hs ⊢
        obtain ⟨a1, a2, a3, _⟩ := he
        refine ⟨a1, a2, a3, hs.1, hs.2, ht, ?_⟩
        by_cases h3 : b = true ∧ d = 3
        · rw [if_pos h3]; exact kindB_1
        · rw [if_neg h3]
          rcases hf with rfl | ⟨rfl, rfl, rfl⟩ | ⟨rfl, rfl⟩
          · exact kindB_1
          · rw [kindB_2]; rfl
          · rw [kindB_3]; rfl
    · have hx' : x ∈ classG b e.1 e.2.1 (e :: R) := hx
      unfold classG at hx'
      rw [if_neg hs] at hx'
      exact h x hx'
/-- What all entries of a list have that is left to a class, all that is left has. -/
theorem squash_all (p : EntD → Prop) (S : List Int) (bottom : Bool) {L : List EntD} (hcl : ∀ b c, (∀ e ∈ c, e ∈ L) → c.length ≤ L.length → ∀ x ∈ clS b c, p x) : ∀ x ∈ squashL L S bottom, p x := by
  unfold squashL
  by_cases hr : rightB L = true
  · rw [if_pos hr]
    intro x hx
    obtain ⟨G, hG, hxG⟩ := List.mem_flatMap.1 hx
    have key : ∀ Cs : List (List EntD), (∀ c ∈ Cs, (∀ e ∈ c, e ∈ L) ∧ c.length ≤ L.length) → ∀ e ∈ (Cs.foldr (Sq.stepD clS) (bottom, [])).2, p e := by
      intro Cs
      induction Cs with
      | nil => intro _ e he; cases he
      | cons c Cs ih =>
        intro h e he
        have ih' := ih (fun x hx => h x (List.mem_cons_of_mem _ hx))
        rw [List.foldr_cons] at he
        generalize Cs.foldr (Sq.stepD clS) (bottom, []) = st at ih' he
        have he' : e ∈ clS st.1 c ++ st.2 := he
        rcases List.mem_append.1 he' with h1 | h1
        · exact hcl _ c (h c List.mem_cons_self).1 (h c List.mem_cons_self).2 e h1
        · exact ih' e h1
    exact key _ (fun c hc => ⟨fun e he => (part_len _ _ G hG).2 e ((part_len _ _ c hc).2 e he), Nat.le_trans (part_len _ _ c hc).1 (part_len _ _ G hG).1⟩) x hxG
  · rw [if_neg hr]; intro x hx; cases hx
theorem squash_ents {L : List EntD} (h : ∀ e ∈ L, entE e = true) (S : List Int) (bottom : Bool) : ∀ x ∈ squashL L S bottom, entE x = true :=
  squash_all _ S bottom (fun b c hc _ => cl_ent b c (fun e he => h e (hc e he)))
theorem squash_lits {L : List EntD} (h : ∀ e ∈ L, -100 ≤ e.2.2.2.2 ∧ e.2.2.2.2 ≤ 100) (hl : L.length ≤ 20) (S : List Int) (bottom : Bool) : ∀ x ∈ squashL L S bottom, Lit2 x := by
  refine squash_all _ S bottom (fun b c hc hcl x hx => ?_)
  match c, hc, hcl, hx with
  | [], _, _, hx => cases hx
  | e :: R, hc, hcl, hx =>
    have hb := join_sumB 100 (by omega) (e :: R) true 0 (fun y hy => h y (hc y hy))
    have hx' : x ∈ classG b e.1 e.2.1 (e :: R) := hx
    unfold classG at hx'
    by_cases hs : sumOkB (joinG true 0 (e :: R)).2.2 = true
    · rw [if_pos hs] at hx'
      by_cases h2 : b = true ∧ (joinG true 0 (e :: R)).1 = 2
      · rw [if_pos h2] at hx'; cases hx'
      · rw [if_neg h2] at hx'
        have hxe := List.mem_singleton.1 hx'
        rw [hxe]
        unfold Lit2
        simp only
        have : ((e :: R).length : Int) ≤ 20 := by omega
        omega
    · rw [if_neg hs] at hx'
      have := h x (hc x hx')
      unfold Lit2
      omega
end Go.Proofs.YtlmgojlffgkciaaGreat

namespace Go.Proofs.YtlmgojlffgkciaaGreat
open Go.RowKit

/-! Keys and times of what is left. -/
def kq (e : EntD) : ByteArray × Int := (e.1, e.2.1)
theorem cl_sub (b : Bool) : ∀ c : List EntD, ((clS b c).map kq).Sublist (c.map kq)
  | [] => List.Sublist.refl _
  | e :: R => by
    show ((classG b e.1 e.2.1 (e :: R)).map kq).Sublist _
    unfold classG
    by_cases h1 : sumOkB (joinG true 0 (e :: R)).2.2 = true
    · rw [if_pos h1]
      by_cases h2 : b = true ∧ (joinG true 0 (e :: R)).1 = 2
      · rw [if_pos h2]; exact List.nil_sublist _
      · rw [if_neg h2]
        simp only [List.map_cons, List.map_nil, kq]
        exact List.Sublist.cons_cons _ (List.nil_sublist _)
    · rw [if_neg h1]; exact List.Sublist.refl _
theorem left_sub (bottom : Bool) : ∀ Cs : List (List EntD), ((Cs.foldr (Sq.stepD clS) (bottom, [])).2.map kq).Sublist (Cs.flatten.map kq)
  | [] => List.Sublist.refl _
  | c :: Cs => by
    have ih := left_sub bottom Cs
    rw [List.foldr_cons, List.flatten_cons, List.map_append]
    generalize Cs.foldr (Sq.stepD clS) (bottom, []) = st at ih ⊢
    show ((clS st.1 c ++ st.2).map kq).Sublist _
    rw [List.map_append]
    exact List.Sublist.append (cl_sub _ c) ih
theorem flat_sub (S : List Int) (bottom : Bool) : ∀ Gs : List (List EntD), ((Gs.flatMap (leftS S bottom)).map kq).Sublist (Gs.flatten.map kq)
  | [] => List.Sublist.refl _
  | G :: Gs => by
    have ih := flat_sub S bottom Gs
    have h := left_sub bottom (Sq.parts (cutB S) G)
    rw [Sq.parts_flat] at h
    rw [List.flatMap_cons, List.flatten_cons, List.map_append, List.map_append]
    exact List.Sublist.append h ih
theorem squash_pair {L : List EntD} (h : L.Pairwise (fun a b => lessB a.1 a.2.1 b.1 b.2.1 = true)) (S : List Int) (bottom : Bool) : (squashL L S bottom).Pairwise (fun a b => lessB a.1 a.2.1 b.1 b.2.1 = true) := by
  unfold squashL
  by_cases hr : rightB L = true
  · rw [if_pos hr]
    have hs := flat_sub S bottom (Sq.parts keyEq L)
    rw [Sq.parts_flat] at hs
    have h1 : (L.map kq).Pairwise (fun a b => lessB a.1 a.2 b.1 b.2 = true) := List.pairwise_map.2 h
    exact List.pairwise_map.1 (h1.sublist hs)
  · rw [if_neg hr]; exact List.Pairwise.nil
theorem right_all {L : List EntD} {n : Nat} (hl : L.length = n) (h1 : ∀ e ∈ L, entB e.1 e.2.1 e.2.2.1 e.2.2.2.1 e.2.2.2.2 = true) (h2 : ∀ j, 1 ≤ j → j < n → ∀ x y, L[j - 1]? = some x → L[j]? = some y → lessB x.1 x.2.1 y.1 y.2.1 = true) : rightB L = true := by
  refine right_of (k := n) (fun j hj => ?_) (by omega)
  have hjl : j < L.length := by omega
  have he := List.getElem?_eq_getElem hjl
  match j, hj, hjl, he with
  | 0, _, hjl, he => rw [okAt_zero he]; exact h1 _ (List.getElem_mem hjl)
  | j + 1, hj, hjl, he =>
    have hd := List.getElem?_eq_getElem (l := L) (i := j) (by omega)
    rw [okAt_succ he hd, h1 _ (List.getElem_mem hjl), h2 (j + 1) (by omega) hj _ _ (show L[j + 1 - 1]? = _ from hd) he]
    rfl
theorem right_squash {L : List EntD} (hr : rightB L = true) (S : List Int) (bottom : Bool) : rightB (squashL L S bottom) = true := by
  have hp := squash_pair (right_pair hr) S bottom
  refine right_all rfl (squash_ents (fun e he => by obtain ⟨j, hj⟩ := List.getElem?_of_mem he; exact right_ent hr hj) S bottom) (fun j h1 h2 x y hx hy => ?_)
  obtain ⟨hi, ei⟩ := List.getElem?_eq_some_iff.1 hx
  obtain ⟨hj, ej⟩ := List.getElem?_eq_some_iff.1 hy
  have := (List.pairwise_iff_getElem.1 hp) (j - 1) j hi hj (by omega)
  rw [ei, ej] at this
  exact this
end Go.Proofs.YtlmgojlffgkciaaGreat

namespace Go.Proofs.YtlmgojlffgkciaaGreat
open Go.RowKit Go.Sort

theorem five (i : Nat) (j : Nat) (hj : j < 5) : (i * 5 + j) / 5 = i ∧ (i * 5 + j) % 5 = j := by omega
theorem ent_five (x : EntD) : (entCells x)[0]! = .string x.1 ∧ (entCells x)[1]! = .int .i64 x.2.1 ∧ (entCells x)[2]! = .int .i64 x.2.2.1 ∧ (entCells x)[3]! = .string x.2.2.2.1 ∧ (entCells x)[4]! = .int .i64 x.2.2.2.2 := ⟨rfl, rfl, rfl, rfl, rfl⟩
theorem holds_ents {w : World} {base g n c : Nat} {L : List EntD} (hO : OwnE w base g n c L) : HoldsK entCells 5 w g 0 L.toArray := by
  intro t ht
  rw [size_flatK] at ht
  have hl := hO.len
  have hlt : t / 5 < L.length := by simp at ht; omega
  refine ⟨?_, by rw [Nat.zero_add]; exact hO.owns.frozenAt _⟩
  rw [get_flatK _ _ _ _ ht]
  obtain ⟨c0, c1, c2, c3, c4⟩ := hO.entsAt.cells _ rfl (t / 5) hlt
  have e : (L.toArray)[t / 5]! = L[t / 5] := by simp [hlt]
  rw [e]
  obtain ⟨z0, z1, z2, z3, z4⟩ := ent_five L[t / 5]
  have hm : t % 5 < 5 := Nat.mod_lt _ (by omega)
  have ht5 : t = t / 5 * 5 + t % 5 := by omega
  rcases (show t % 5 = 0 ∨ t % 5 = 1 ∨ t % 5 = 2 ∨ t % 5 = 3 ∨ t % 5 = 4 by omega) with h | h | h | h | h
  · rw [h, z0]; rw [show (0 : Nat) + t = 0 + t / 5 * 5 by omega]; exact c0
  · rw [h, z1]; rw [show (0 : Nat) + t = 0 + t / 5 * 5 + 1 by omega]; exact c1
  · rw [h, z2]; rw [show (0 : Nat) + t = 0 + t / 5 * 5 + 2 by omega]; exact c2
  · rw [h, z3]; rw [show (0 : Nat) + t = 0 + t / 5 * 5 + 3 by omega]; exact c3
  · rw [h, z4]; rw [show (0 : Nat) + t = 0 + t / 5 * 5 + 4 by omega]; exact c4
theorem ents_holds {w : World} {g : Nat} {D : Array EntD} (h : HoldsK entCells 5 w g 0 D) (i : Nat) (hi : i < D.toList.length) : EntCells w g (0 + i * 5) D.toList[i] := by
  have hi' : i < D.size := by simpa using hi
  have e : D[i]! = D.toList[i] := by simp [hi']
  have key : ∀ j, j < 5 → w.cell? ⟨g, 0 + i * 5 + j, none⟩ = some ((entCells D.toList[i])[j]!) := fun j hj => by
    have hlt : i * 5 + j < D.size * 5 := by omega
    have := (h (i * 5 + j) (by rw [size_flatK]; exact hlt)).1
    rw [get_flatK _ _ _ _ hlt, (five i j hj).1, (five i j hj).2, e] at this
    rw [Nat.add_assoc]
    exact this
  obtain ⟨z0, z1, z2, z3, z4⟩ := ent_five D.toList[i]
  exact ⟨by rw [← z0]; exact key 0 (by omega), by rw [← z1]; exact key 1 (by omega), by rw [← z2]; exact key 2 (by omega), by rw [← z3]; exact key 3 (by omega), by rw [← z4]; exact key 4 (by omega)⟩
theorem grown_sorted {w : World} {g n : Nat} {os : Array Obj} (d : Array EntD) : w.grownBy (sortWorldK entCells 5 w g 0 n d os) (some g) := by
  unfold sortWorldK putRowK
  refine ⟨rfl, rfl, rfl, by simp, fun k hk hne => ?_⟩
  rw [heap_grow_old _ _ (by simpa using hk)]
  have : g ≠ k := fun e => hne (by rw [e])
  simp [putRow, mapBlock, Sort.ahead, Array.getElem?_modify, this]
end Go.Proofs.YtlmgojlffgkciaaGreat

namespace Go.Proofs.YtlmgojlffgkciaaGreat
open Go.Shelf
def Tryz.sortL_ren : Go.Shelf.Ren := ⟨fun | 6 => 144 | 15 => 181 | 14 => 180 | 28 => 208 | 29 => 209 | 20 => 195 | 21 => 201 | 22 => 202 | 23 => 203 | 24 => 204 | 25 => 205 | 26 => 206 | 27 => 207 | 46 => 216 | 47 => 217 | 48 => 218 | 49 => 219 | 50 => 220 | 57 => 227 | n => n, fun | 22 => 28 | 24 => 78 | 25 => 159 | 3 => 3 | 39 => 197 | 0 => 0 | 53 => 235 | 55 => 237 | 4 => 4 | 46 => 229 | 45 => 228 | 50 => 198 | 5 => 5 | 9 => 9 | 66 => 241 | 70 => 245 | 76 => 249 | 77 => 106 | n => n, fun | n => n⟩
theorem Tryz.sortL : Go.Proofs.SlLaysF0.n6 Tryz.prog Tryz.sortL_ren := {
  mixed := by kernel_rfl
  f6 := ⟨Tryz.f144.name, by decide, Tryz.func144.trans (congrArg some (by kernel_rfl))⟩
  f14 := ⟨Tryz.f180.name, by decide, Tryz.func180.trans (congrArg some (by kernel_rfl))⟩
  f15 := Tryz.func181.trans (congrArg some (by kernel_rfl))
  f20 := ⟨Tryz.f195.name, by decide, Tryz.func195.trans (congrArg some (by kernel_rfl))⟩
  f21 := ⟨Tryz.f201.name, by decide, Tryz.func201.trans (congrArg some (by kernel_rfl))⟩
  f22 := ⟨Tryz.f202.name, by decide, Tryz.func202.trans (congrArg some (by kernel_rfl))⟩
  f23 := ⟨Tryz.f203.name, by decide, Tryz.func203.trans (congrArg some (by kernel_rfl))⟩
  f24 := ⟨Tryz.f204.name, by decide, Tryz.func204.trans (congrArg some (by kernel_rfl))⟩
  f25 := ⟨Tryz.f205.name, by decide, Tryz.func205.trans (congrArg some (by kernel_rfl))⟩
  f26 := ⟨Tryz.f206.name, by decide, Tryz.func206.trans (congrArg some (by kernel_rfl))⟩
  f27 := ⟨Tryz.f207.name, by decide, Tryz.func207.trans (congrArg some (by kernel_rfl))⟩
  f28 := Tryz.func208.trans (congrArg some (by kernel_rfl))
  f29 := Tryz.func209.trans (congrArg some (by kernel_rfl))
  f46 := ⟨Tryz.f216.name, by decide, Tryz.func216.trans (congrArg some (by kernel_rfl))⟩
  f47 := Tryz.func217.trans (congrArg some (by kernel_rfl))
  f48 := Tryz.func218.trans (congrArg some (by kernel_rfl))
  f49 := ⟨Tryz.f219.name, by decide, Tryz.func219.trans (congrArg some (by kernel_rfl))⟩
  f50 := ⟨Tryz.f220.name, by decide, Tryz.func220.trans (congrArg some (by kernel_rfl))⟩
  f57 := ⟨Tryz.f227.name, by decide, Tryz.func227.trans (congrArg some (by kernel_rfl))⟩
  t0 := Tryz.underlying0
  a0 := Tryz.isAgg0
  z0 := Tryz.sizeOf0
  v0 := Tryz.zeroValue0
  t3 := Tryz.underlying3
  a3 := Tryz.isAgg3
  z3 := Tryz.sizeOf3
  v3 := Tryz.zeroValue3
  t4 := Tryz.underlying4
  a4 := Tryz.isAgg4
  z4 := Tryz.sizeOf4
  v4 := Tryz.zeroValue4
  t5 := Tryz.underlying5
  a5 := Tryz.isAgg5
  z5 := Tryz.sizeOf5
  v5 := Tryz.zeroValue5
  t9 := Tryz.underlying9
  a9 := Tryz.isAgg9
  z9 := Tryz.sizeOf9
  v9 := Tryz.zeroValue9
  t22 := Tryz.underlying28
  a22 := Tryz.isAgg28
  z22 := Tryz.sizeOf28
  v22 := Tryz.zeroValue28
  t25 := Tryz.underlying159
  a25 := Tryz.isAgg159
  z25 := Tryz.sizeOf159
  v25 := Tryz.zeroValue159
  t39 := Tryz.underlying197
  a39 := Tryz.isAgg197
  z39 := Tryz.sizeOf197
  v39 := Tryz.zeroValue197
  t45 := Tryz.underlying228
  a45 := Tryz.isAgg228
  z45 := Tryz.sizeOf228
  v45 := Tryz.zeroValue228
  t46 := Tryz.underlying229
  a46 := Tryz.isAgg229
  z46 := Tryz.sizeOf229
  v46 := Tryz.zeroValue229
  t50 := Tryz.underlying198
  a50 := Tryz.isAgg198
  z50 := Tryz.sizeOf198
  v50 := Tryz.zeroValue198
  t53 := Tryz.underlying235
  a53 := Tryz.isAgg235
  z53 := Tryz.sizeOf235
  v53 := Tryz.zeroValue235
  t55 := Tryz.underlying237
  a55 := Tryz.isAgg237
  z55 := Tryz.sizeOf237
  v55 := Tryz.zeroValue237
  t66 := Tryz.underlying241
  a66 := Tryz.isAgg241
  z66 := Tryz.sizeOf241
  v66 := Tryz.zeroValue241
  t70 := Tryz.underlying245
  a70 := Tryz.isAgg245
  z70 := Tryz.sizeOf245
  v70 := Tryz.zeroValue245
  t76 := Tryz.underlying249
  a76 := Tryz.isAgg249
  z76 := Tryz.sizeOf249
  v76 := Tryz.zeroValue249
  t77 := Tryz.underlying106
  a77 := Tryz.isAgg106
  z77 := Tryz.sizeOf106
  v77 := Tryz.zeroValue106 }
end Go.Proofs.YtlmgojlffgkciaaGreat

namespace Go.Proofs.YtlmgojlffgkciaaGreat
open Go.Shelf
def Tryz.cloneL_ren : Go.Shelf.Ren := ⟨fun | 41 => 89 | n => n, fun | 22 => 28 | 23 => 78 | 4 => 4 | n => n, fun | n => n⟩
theorem Tryz.cloneL : Go.Proofs.SlLaysE0.n41 Tryz.prog Tryz.cloneL_ren := {
  mixed := by kernel_rfl
  f41 := ⟨Tryz.f89.name, by decide, Tryz.func89.trans (congrArg some (by kernel_rfl))⟩
  t4 := Tryz.underlying4
  a4 := Tryz.isAgg4
  z4 := Tryz.sizeOf4
  v4 := Tryz.zeroValue4
  t22 := Tryz.underlying28
  a22 := Tryz.isAgg28
  z22 := Tryz.sizeOf28
  v22 := Tryz.zeroValue28 }
end Go.Proofs.YtlmgojlffgkciaaGreat

namespace Go.Proofs.YtlmgojlffgkciaaGreat
open Go.RowKit Go.Sort

set_option maxRecDepth 100000 in
theorem cloneRow (b n c : Nat) (L : List EntD) (w : World) (hL : EntsAt w (some ⟨b, 0, none⟩) n c L) (hn : n ≤ 1048576) :
    Calls Tryz.prog 89 #[.slice (some ⟨b, 0, none⟩) n c] w fun e w' => ∃ g c', e = .returned (.slice (some ⟨g, 0, none⟩) n c') ∧ OwnE w' w.heap.size g n c' L ∧ Below w.heap.size w w' := by
  obtain ⟨i0, hi, hz0, hz1, hz2⟩ := info_parts Tryz.infoEnt
  have h := AnyE.slices_Clone Tryz.cloneL i0 _ 5 56 hi hz0 hz1 hz2 rfl (by decide) Tryz.sizeOf78 b 0 n c (flatE L) w (by rw [flatE_len, hL.length]) (by unfold maxLen; omega) (by omega) (fun j u hu => by have := ents_news hL j u hu; rwa [WideShapes.add_plain] at this) (flatE_one _)
  have h' : Calls Tryz.prog 89 #[.slice (some ⟨b, 0, none⟩) n c] w fun e w' => ∃ v', e = .returned v' ∧ w'.ownsRow w.heap.size 78 5 v' n (flatE L) ∧ v' ≠ .slice none 0 0 ∧ Below w.heap.size w w' := h
  refine h'.mono ?_
  rintro e w' ⟨v', rfl, ho, hne, hb⟩
  obtain ⟨g, c', rfl⟩ : ∃ g cap, v' = .slice (some ⟨g, 0, none⟩) n cap := by
    rcases ho.2 with ⟨hv, h0⟩ | ⟨g, cap, cur, hv, _⟩
    · exact absurd hv hne
    · exact ⟨g, cap, hv⟩
  exact ⟨g, c', rfl, ⟨ho, hL.length, hL.ents⟩, hb⟩

set_option maxRecDepth 100000 in
theorem sortRow (base g n c : Nat) (L : List EntD) (w : World) (hO : OwnE w base g n c L) (hn : n ≤ 1048576) :
    Calls Tryz.prog 144 #[.slice (some ⟨g, 0, none⟩) n c, .func (.func 145) #[] #[]] w fun e w' => e = .returned (.tuple #[]) ∧ ∃ D, Weak D ∧ D.Perm L ∧ EntsAt w' (some ⟨g, 0, none⟩) n c D ∧ w.grownBy w' (some g) := by
  have hE := hO.entsAt
  have hl := hO.len
  have hsz : L.toArray.size = n := by simp [hl]
  have eg : ∀ args w, (callFunc 145 args).run Tryz.prog w = .ok (.enter 145 args) w := enters_of Tryz.func145 (by kernel_rfl) rfl
  have hcmp : CmpLays Tryz.prog 145 #[] entCells 5 (fun x y : EntD => ordI x.1 x.2.1 y.1 y.2.1) g 0 L.toArray.size w := fun m os dk _ x y => implOrderX x.1 x.2.2.2.1 y.1 y.2.2.2.1 x.2.1 x.2.2.1 x.2.2.2.2 y.2.1 y.2.2.1 y.2.2.2.2 _
  have h := AnyQ.slices_SortFunc Tryz.sortL 5 Tryz.isAgg78 Tryz.sizeOf78 entCells (fun _ => rfl) (fun x v hv => by simp [entCells] at hv; rcases hv with rfl | rfl | rfl | rfl | rfl <;> rfl) (fun x y : EntD => ordI x.1 x.2.1 y.1 y.2.1) less_swo 145 #[] g 0 c L.toArray w eg hcmp (holds_ents hO) hO.lt.2 (by rw [hsz]; omega)
  rw [hsz] at h
  have h' : Calls Tryz.prog 144 #[.slice (some ⟨g, 0, none⟩) n c, .func (.func 145) #[] #[]] w fun e w' => e = .returned (.tuple #[]) ∧ ∃ d' m os, PermIn 0 n L.toArray d' ∧ SortedIn (ltOf (fun x y : EntD => ordI x.1 x.2.1 y.1 y.2.1)) 0 n d' ∧ w' = sortWorldK entCells 5 w g 0 m d' os := h
  refine h'.mono ?_
  rintro e w' ⟨rfl, d', m, os, hp, hs, rfl⟩
  have hd : d'.size = n := hp.1.trans hsz
  have hperm : d'.toList.Perm L := by
    have := hp.2.2
    rw [← hd] at this
    have e1 : d'.extract 0 d'.size = d' := Array.extract_size
    have e2 : L.toArray.extract 0 d'.size = L.toArray := by rw [hd, ← hsz]; exact Array.extract_size
    rw [e1, e2] at this
    exact this
  have hH := holdsK_sortWorldK_c entCells 5 w g 0 L.toArray d' m os (holds_ents hO) hO.lt.2 hp.1
  refine ⟨rfl, d'.toList, ?_, hperm, ?_, grown_sorted d'⟩
  · unfold Weak
    rw [List.pairwise_iff_getElem]
    intro i j hi hj hij
    have hi' : i < d'.size := by simpa using hi
    have hj' : j < d'.size := by simpa using hj
    have := hs i j (Nat.zero_le _) hij (by omega)
    rw [ltOf_less] at this
    have e1 : d'[i]! = d'.toList[i] := by simp [hi']
    have e2 : d'[j]! = d'.toList[j] := by simp [hj']
    rw [e1, e2] at this
    exact this
  · exact ⟨by simpa using hd, hE.room, hE.big, fun l hl' => hO.ents l (hperm.mem_iff.1 hl'), (fun e => by cases e), (fun x e _ => by cases e; exact ⟨Nat.lt_of_lt_of_le hO.lt.2 (grown_sorted d').size, rfl⟩), (fun x e i hi => by cases e; exact ents_holds hH i hi)⟩
end Go.Proofs.YtlmgojlffgkciaaGreat
