/-
  How many entries are left, and that the oldest of a key is a put where nothing stands beneath. Plain.
-/
import Derived.Test.YthhiahjafhkbbaaSqU
namespace Go.Proofs.Ythhiahjafhkbbaa

/-- A class whose sum can be held. -/
def sOk (c : List EntD) : Prop := c ≠ [] ∧ (∀ e ∈ c, KdE e) ∧ sumOkB (joinG true 0 c).2.2 = true
theorem cl_len1 {c : List EntD} (b : Bool) (h : sOk c) : (clS b c).length ≤ 1 := by
  obtain ⟨hne, hk, hs⟩ := h
  obtain ⟨e, R, rfl⟩ := List.exists_cons_of_ne_nil hne
  rcases class_one b e R hk hs with ho | ⟨x, ho, _⟩ <;> rw [ho] <;> simp
theorem join_two {e : EntD} {R : List EntD} (hk : ∀ x ∈ e :: R, KdE x) (h : (joinG true 0 (e :: R)).1 = 2) : e.2.2.1 = 2 := by
  rcases (hk e List.mem_cons_self).1 with h1 | h1 | h1
  · have hj : joinG true 0 (e :: R) = (1, e.2.2.2.1, 0 + e.2.2.2.2) := by simp [joinG, h1]
    rw [hj] at h; simp at h
  · exact h1
  · have hj : joinG true 0 (e :: R) = joinG false (0 + e.2.2.2.2) R := by
      conv => lhs; unfold joinG
      rw [if_neg (by omega), if_neg (by omega)]
    rw [hj] at h
    rcases join_kind R (0 + e.2.2.2.2) (fun x hx => hk x (List.mem_cons_of_mem _ hx)) with h2 | h2
    · omega
    · omega
theorem cl_nil {c : List EntD} {b : Bool} (h : sOk c) (h0 : clS b c = []) : b = true ∧ ∃ e R, c = e :: R ∧ e.2.2.1 = 2 := by
  obtain ⟨hne, hk, hs⟩ := h
  obtain ⟨e, R, rfl⟩ := List.exists_cons_of_ne_nil hne
  have h' : classG b e.1 e.2.1 (e :: R) = [] := h0
  unfold classG at h'
  rw [if_pos hs] at h'
  by_cases h2 : b = true ∧ (joinG true 0 (e :: R)).1 = 2
  · exact ⟨h2.1, e, R, rfl, join_two hk h2.2⟩
  · rw [if_neg h2] at h'; cases h'
theorem cl_del {e : EntD} {R : List EntD} (hk : KdE e) (h : e.2.2.1 = 2) : clS true (e :: R) = [] := by
  show classG true e.1 e.2.1 (e :: R) = []
  unfold classG
  have hj : joinG true 0 (e :: R) = (2, ⟨#[]⟩, 0) := by simp [joinG, h, hk.2 h]
  rw [hj, if_pos (by rfl), if_pos ⟨rfl, rfl⟩]
theorem fold_few (b : Bool) : ∀ Cs : List (List EntD), (∀ c ∈ Cs, sOk c) → (Cs.foldr (Sq.stepD clS) (b, [])).2.length ≤ Cs.length ∧ ((Cs.foldr (Sq.stepD clS) (b, [])).1 = true → b = true) ∧
    ((Cs.foldr (Sq.stepD clS) (b, [])).2 = [] → Cs = [] ∨ (b = true ∧ ∃ e R cs, Cs = (e :: R) :: cs ∧ e.2.2.1 = 2)) ∧
    (b = false → (Cs.foldr (Sq.stepD clS) (b, [])).2.length = Cs.length) ∧
    (b = true → ((Cs.foldr (Sq.stepD clS) (b, [])).1 = true ∨ (Cs.foldr (Sq.stepD clS) (b, [])).2 ≠ []) ∧ ∀ x, (Cs.foldr (Sq.stepD clS) (b, [])).2.getLast? = some x → x.2.2.1 = 1)
  | [], _ => ⟨Nat.le_refl _, fun h => h, fun _ => .inl rfl, fun _ => rfl, fun h => ⟨.inl h, fun x hx => by cases hx⟩⟩
  | c :: Cs, h => by
    obtain ⟨i1, i2, i3, i4, i5⟩ := fold_few b Cs (fun x hx => h x (List.mem_cons_of_mem _ hx))
    have hc := h c List.mem_cons_self
    rw [List.foldr_cons]
    obtain ⟨bb, R, hst⟩ : ∃ bb R, Cs.foldr (Sq.stepD clS) (b, []) = (bb, R) := ⟨_, _, rfl⟩
    rw [hst] at i1 i2 i3 i4 i5 ⊢
    simp only at i1 i2 i3 i4 i5
    have h1 := cl_len1 bb hc
    show (clS bb c ++ R).length ≤ _ ∧ ((if (clS bb c).isEmpty then bb else false) = true → _) ∧ (clS bb c ++ R = [] → _) ∧ (b = false → (clS bb c ++ R).length = _) ∧ (b = true → ((if (clS bb c).isEmpty then bb else false) = true ∨ clS bb c ++ R ≠ []) ∧ ∀ x, (clS bb c ++ R).getLast? = some x → x.2.2.1 = 1)
    refine ⟨by rw [List.length_append, List.length_cons]; omega, fun hb => ?_, fun h0 => ?_, fun hb => ?_, fun hb => ⟨?_, fun x hx => ?_⟩⟩
    · by_cases he : (clS bb c).isEmpty = true
      · rw [if_pos he] at hb; exact i2 hb
      · rw [if_neg he] at hb; cases hb
    · have h2 := cl_nil hc (List.append_eq_nil_iff.1 h0).1
      obtain ⟨e, T, rfl, he⟩ := h2.2
      exact .inr ⟨i2 h2.1, e, T, Cs, rfl, he⟩
    · have hbb : bb = false := by
        cases hbb : bb with
        | false => rfl
        | true => have := i2 hbb; rw [hb] at this; cases this
      have h2 : clS bb c ≠ [] := fun h0 => by have := (cl_nil hc h0).1; rw [hbb] at this; cases this
      have h3 : 1 ≤ (clS bb c).length := by
        cases hcl : clS bb c with
        | nil => exact absurd hcl h2
        | cons => simp
      rw [List.length_append, i4 hb, List.length_cons]
      omega
    · by_cases he : clS bb c = []
      · rcases (i5 hb).1 with h2 | h2
        · rw [he]; left; exact h2
        · right; rw [he]; exact h2
      · right
        exact fun h0 => he (List.append_eq_nil_iff.1 h0).1
    · by_cases hR : R = []
      · subst hR
        rw [List.append_nil] at hx
        have hbb : bb = true := by
          rcases (i5 hb).1 with h2 | h2
          · exact h2
          · exact absurd rfl h2
        obtain ⟨hne, hk, hs⟩ := hc
        obtain ⟨e, T, rfl⟩ := List.exists_cons_of_ne_nil hne
        rcases class_one bb e T hk hs with ho | ⟨y, ho, _, _, _, hy⟩
        · rw [ho] at hx; cases hx
        · rw [ho] at hx
          simp at hx
          subst hx
          exact hy hbb
      · obtain ⟨z, hz⟩ : ∃ z, R.getLast? = some z := ⟨_, List.getLast?_eq_some_getLast hR⟩
        rw [List.getLast?_append, hz] at hx
        simp at hx
        subst hx
        exact (i5 hb).2 z hz

/-! Lists of few and of many. -/
theorem flat_le {f f' : List EntD → List EntD} : ∀ Gs : List (List EntD), (∀ G ∈ Gs, (f G).length ≤ (f' G).length) → (Gs.flatMap f).length ≤ (Gs.flatMap f').length
  | [], _ => Nat.le_refl _
  | G :: Gs, h => by
    have ih := flat_le Gs (fun x hx => h x (List.mem_cons_of_mem _ hx))
    have h1 := h G List.mem_cons_self
    rw [List.flatMap_cons, List.flatMap_cons, List.length_append, List.length_append]
    omega
theorem flat_times {f : List EntD → List EntD} {k : Nat} : ∀ Gs : List (List EntD), (∀ G ∈ Gs, (f G).length ≤ k) → (Gs.flatMap f).length ≤ Gs.length * k
  | [], _ => by simp
  | G :: Gs, h => by
    have ih := flat_times Gs (fun x hx => h x (List.mem_cons_of_mem _ hx))
    have h1 := h G List.mem_cons_self
    rw [List.flatMap_cons, List.length_append, List.length_cons, Nat.succ_mul]
    omega
theorem count_more {p q : Int → Bool} (hpq : ∀ s, p s = true → q s = true) {s0 : Int} (h1 : q s0 = true) (h2 : p s0 = false) : ∀ S : List Int, s0 ∈ S → S.countP p + 1 ≤ S.countP q
  | [], h => by cases h
  | s :: S, h => by
    have hle : S.countP p ≤ S.countP q := List.countP_mono_left (fun x _ hx => hpq x hx)
    rw [List.countP_cons, List.countP_cons]
    rcases List.mem_cons.1 h with rfl | h
    · rw [h1, h2]; simp; exact hle
    · have ih := count_more hpq h1 h2 S h
      by_cases hp : p s = true
      · rw [hp, hpq s hp]; simp; omega
      · rw [if_neg hp]; omega
theorem parts_few (S : List Int) : ∀ (Cs : List (List EntD)) (c : List EntD) (z : EntD), (∀ d ∈ c :: Cs, d ≠ []) → Edges (cutB S) (c :: Cs) → (c :: Cs).flatten.Pairwise (fun a b => b.2.1 < a.2.1) → c.getLast? = some z → (c :: Cs).length ≤ 1 + S.countP (fun s => decide (s < z.2.1))
  | [], c, z, _, _, _, _ => by simp
  | d :: Cs, c, z, hne, hE, hp, hz => by
    have hp' : (d :: Cs).flatten.Pairwise (fun a b => b.2.1 < a.2.1) := by rw [List.flatten_cons] at hp; exact (List.pairwise_append.1 hp).2.1
    obtain ⟨f, U, hdf⟩ := List.exists_cons_of_ne_nil (hne d (List.mem_cons_of_mem _ List.mem_cons_self))
    obtain ⟨y, hy⟩ : ∃ y, d.getLast? = some y := by rw [hdf]; exact ⟨_, List.getLast?_eq_some_getLast (by simp)⟩
    have ih := parts_few S Cs d y (fun x hx => hne x (List.mem_cons_of_mem _ hx)) hE.2 hp' hy
    have h2 := hE.1 z f hz (by rw [hdf]; rfl)
    have h3 := (head_top hdf hp').1 y (List.mem_of_getLast? hy)
    unfold cutB at h2
    simp only [Bool.not_eq_false'] at h2
    obtain ⟨s, hs1, hs2⟩ := List.any_eq_true.1 h2
    simp only [Bool.and_eq_true, decide_eq_true_eq] at hs2
    have h4 := count_more (p := fun s => decide (s < y.2.1)) (q := fun s => decide (s < z.2.1)) (fun t ht => by simp only [decide_eq_true_eq] at ht ⊢; omega) (s0 := s) (by simp only [decide_eq_true_eq]; omega) (by simp only [decide_eq_false_iff_not]; omega) S hs1
    rw [List.length_cons]
    omega
/-- The last of a key is a put. -/
def LastPut (M : List EntD) : Prop := ∀ (i : Nat) x, M[i]? = some x → (M[i + 1]? = none ∨ ∃ y, M[i + 1]? = some y ∧ y.1 ≠ x.1) → x.2.2.1 = 1
theorem lastPut_app {H M : List EntD} {k : ByteArray} (hk : ∀ e ∈ H, e.1 = k) (hl : ∀ x, H.getLast? = some x → x.2.2.1 = 1) (hM : LastPut M) : LastPut (H ++ M) := by
  intro i x hx hn
  by_cases hi : i < H.length
  · rw [List.getElem?_append_left hi] at hx
    by_cases hi2 : i + 1 < H.length
    · rw [List.getElem?_append_left hi2] at hn
      exfalso
      rcases hn with h | ⟨y, hy, hne⟩
      · rw [List.getElem?_eq_getElem hi2] at h; cases h
      · exact hne (by rw [hk y (List.mem_of_getElem? hy), hk x (List.mem_of_getElem? hx)])
    · refine hl x ?_
      rw [List.getLast?_eq_getElem?, show H.length - 1 = i by omega]
      exact hx
  · rw [List.getElem?_append_right (by omega)] at hx hn
    exact hM (i - H.length) x hx (by rw [show i - H.length + 1 = i + 1 - H.length by omega]; exact hn)

/-! All of it. -/
/-- Numbers so small that all sums can be held. -/
def SmL (L : List EntD) : Prop := L.length ≤ 100 ∧ ∀ e ∈ L, -1000 ≤ e.2.2.2.2 ∧ e.2.2.2.2 ≤ 1000
theorem class_ok {L : List EntD} (hr : rightB L = true) (hs : SmL L) (S : List Int) {G : List EntD} (hG : G ∈ Sq.parts keyEq L) : ∀ c ∈ Sq.parts (cutB S) G, sOk c := fun c hc => by
  have hcL : ∀ e ∈ c, e ∈ L := fun e he => (part_len _ _ G hG).2 e ((part_len _ _ c hc).2 e he)
  have hl : c.length ≤ 100 := Nat.le_trans (part_len _ _ c hc).1 (Nat.le_trans (part_len _ _ G hG).1 hs.1)
  have hb := join_sumB 1000 (by omega) c true 0 (fun e he => hs.2 e (hcL e he))
  refine ⟨part_ne _ _ c hc, fun e he => right_kd hr e (hcL e he), ?_⟩
  simp only [sumOkB, Bool.and_eq_true, decide_eq_true_eq]
  omega
theorem few_times {L : List EntD} (hr : rightB L = true) (hs : SmL L) (S : List Int) (b : Bool) {G : List EntD} (hG : G ∈ Sq.parts keyEq L) : (leftS S b G).length ≤ S.length + 1 := by
  have h1 := (fold_few b (Sq.parts (cutB S) G) (class_ok hr hs S hG)).1
  refine Nat.le_trans h1 ?_
  have hne := part_ne (cutB S) G
  have hE := parts_edges (cutB S) G
  have hp := group_desc (right_pair hr) hG
  rw [← Sq.parts_flat (cutB S) G] at hp
  cases hC : Sq.parts (cutB S) G with
  | nil => simp
  | cons c Cs =>
    rw [hC] at hne hE hp
    obtain ⟨e, R, hce⟩ := List.exists_cons_of_ne_nil (hne c List.mem_cons_self)
    obtain ⟨z, hz⟩ : ∃ z, c.getLast? = some z := by rw [hce]; exact ⟨_, List.getLast?_eq_some_getLast (by simp)⟩
    have h2 := parts_few S Cs c z hne hE hp hz
    have h3 : S.countP (fun s => decide (s < z.2.1)) ≤ S.length := List.countP_le_length
    omega
theorem squash_few {L : List EntD} (hs : SmL L) (S : List Int) (b : Bool) : (squashL L S b).length ≤ (Sq.parts keyEq L).length * (S.length + 1) := by
  unfold squashL
  by_cases hr : rightB L = true
  · rw [if_pos hr]; exact flat_times _ (fun G hG => few_times hr hs S b hG)
  · rw [if_neg hr]; simp
theorem squash_low {L : List EntD} (hs : SmL L) (S : List Int) : (squashL L S true).length ≤ (squashL L S false).length := by
  unfold squashL
  by_cases hr : rightB L = true
  · rw [if_pos hr, if_pos hr]
    refine flat_le _ (fun G hG => ?_)
    have h1 := (fold_few true (Sq.parts (cutB S) G) (class_ok hr hs S hG)).1
    have h2 := (fold_few false (Sq.parts (cutB S) G) (class_ok hr hs S hG)).2.2.2.1 rfl
    show (Sq.leftD clS true _).length ≤ (Sq.leftD clS false _).length
    unfold Sq.leftD
    omega
  · rw [if_neg hr, if_neg hr]; exact Nat.le_refl _
theorem squash_none_le {L : List EntD} (hs : SmL L) (S : List Int) (b : Bool) : (squashL L [] b).length ≤ (squashL L S b).length := by
  unfold squashL
  by_cases hr : rightB L = true
  · rw [if_pos hr, if_pos hr]
    refine flat_le _ (fun G hG => ?_)
    have hne := part_ne _ _ G hG
    have hc : Sq.parts (cutB []) G = [G] := Sq.parts_chain _ _ hne (fun j x y _ _ => rfl)
    have hok := class_ok hr hs [] hG G (by rw [hc]; exact List.mem_cons_self)
    have hL : leftS [] b G = clS b G := by
      unfold leftS Sq.leftD
      rw [hc]
      show clS b G ++ [] = _
      rw [List.append_nil]
    rw [hL]
    have h1 := cl_len1 b hok
    by_cases h0 : leftS S b G = []
    · have h2 := (fold_few b (Sq.parts (cutB S) G) (class_ok hr hs S hG)).2.2.1 h0
      obtain ⟨x, T, hGx⟩ := List.exists_cons_of_ne_nil hne
      obtain ⟨c', cs', hp⟩ := Sq.parts_head (cutB S) x T
      rw [← hGx] at hp
      rcases h2 with h2 | ⟨hb, e, R, cs, h2, he⟩
      · rw [hp] at h2; cases h2
      · rw [hp] at h2
        cases h2
        rw [hb, hGx, cl_del (hok.2.1 x (by rw [hGx]; exact List.mem_cons_self)) he]
        exact Nat.zero_le _
    · have : 1 ≤ (leftS S b G).length := by
        cases hl : leftS S b G with
        | nil => exact absurd hl h0
        | cons => simp
      omega
  · rw [if_neg hr, if_neg hr]; exact Nat.le_refl _
theorem squash_puts {L : List EntD} (hs : SmL L) (S : List Int) : LastPut (squashL L S true) := by
  unfold squashL
  by_cases hr : rightB L = true
  · rw [if_pos hr]
    have key : ∀ Gs : List (List EntD), (∀ G ∈ Gs, G ∈ Sq.parts keyEq L) → LastPut (Gs.flatMap (leftS S true)) := by
      intro Gs
      induction Gs with
      | nil => intro _ i x hx; cases hx
      | cons G Gs ih =>
        intro h
        have hG := h G List.mem_cons_self
        obtain ⟨k, hk⟩ := group_key hG
        rw [List.flatMap_cons]
        refine lastPut_app (k := k) (fun e he => ?_) (((fold_few true (Sq.parts (cutB S) G) (class_ok hr hs S hG)).2.2.2.2 rfl).2) (ih (fun x hx => h x (List.mem_cons_of_mem _ hx)))
        obtain ⟨y, hy, h1, _⟩ := left_mem S true G e he
        rw [h1]; exact hk y hy
    exact key _ (fun G hG => hG)
  · rw [if_neg hr]; intro i x hx; cases hx
/-- How many parts of like keys there are, up to number k. -/
theorem keys_snoc (L : List EntD) (e : EntD) : (Sq.parts keyEq (L ++ [e])).length = (Sq.parts keyEq L).length + (match L.getLast? with | none => 1 | some x => if x.1 = e.1 then 0 else 1) := by
  cases hL : L.getLast? with
  | none =>
    have : L = [] := List.getLast?_eq_none_iff.1 hL
    subst this
    rfl
  | some x =>
    simp only
    by_cases hx : x.1 = e.1
    · rw [if_pos hx]
      have key : ∀ (M : List EntD) (x e : EntD), M.getLast? = some x → x.1 = e.1 → (Sq.parts keyEq (M ++ [e])).length = (Sq.parts keyEq M).length := by
        intro M
        induction M with
        | nil => intro x e h; cases h
        | cons z M ih =>
          intro x e h hxe
          cases M with
          | nil =>
            simp at h
            subst h
            have : keyEq z e = true := decide_eq_true hxe
            simp [Sq.parts, Sq.putP, this]
          | cons y R =>
            rw [List.getLast?_cons_cons] at h
            have h1 := ih x e h hxe
            rw [List.cons_append, Sq.parts_cons, Sq.parts_cons]
            obtain ⟨c, cs, hp⟩ := Sq.parts_head keyEq y R
            obtain ⟨c', cs', hp'⟩ := Sq.parts_head keyEq y (R ++ [e])
            rw [← List.cons_append] at hp'
            rw [hp, hp'] at h1 ⊢
            by_cases hr : keyEq z y = true
            · simp [Sq.putP, hr] at h1 ⊢; exact h1
            · simp [Sq.putP, hr] at h1 ⊢; exact h1
      rw [key L x e hL hx]
      rfl
    · rw [if_neg hx, Sq.parts_app keyEq L [e] (fun a b ha hb => by
        rw [hL] at ha
        simp at ha hb
        subst ha
        subst hb
        exact decide_eq_false hx), List.length_append]
      rfl
end Go.Proofs.Ythhiahjafhkbbaa
