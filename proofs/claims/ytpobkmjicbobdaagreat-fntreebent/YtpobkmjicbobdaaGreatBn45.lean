/- Walks. -/
import Derived.Test.YtpobkmjicbobdaaGreatBn10
namespace Go.Proofs.YtpobkmjicbobdaaGreat
namespace Mg
variable {β : Type} {less : β → β → Bool}
def Ok (less : β → β → Bool) (H : List β) (p c : Nat) : Prop := ∀ x y, H[p]? = some x → H[c]? = some y → less y x = false
def HeapTo (less : β → β → Bool) (n : Nat) (H : List β) : Prop := ∀ c, 0 < c → c < n → Ok less H ((c - 1) / 2) c
structure UpI (less : β → β → Bool) (n : Nat) (H : List β) (j : Nat) : Prop where
  rest : ∀ c, 0 < c → c < n → c ≠ j → Ok less H ((c - 1) / 2) c
  over : 0 < j → ∀ c, 0 < c → c < n → (c - 1) / 2 = j → Ok less H ((j - 1) / 2) c
structure DownI (less : β → β → Bool) (n : Nat) (H : List β) (i : Nat) : Prop where
  rest : ∀ c, 0 < c → c < n → (c - 1) / 2 ≠ i → Ok less H ((c - 1) / 2) c
  over : 0 < i → ∀ c, 0 < c → c < n → (c - 1) / 2 = i → Ok less H ((i - 1) / 2) c
def sw (H : List β) (i j : Nat) (x y : β) : List β := (H.set i y).set j x
theorem sw_get {H : List β} {i j : Nat} {x y : β} (hx : H[i]? = some x) (hy : H[j]? = some y) (k : Nat) : (sw H i j x y)[k]? = if k = j then some x else if k = i then some y else H[k]? := by
  have hi := (List.getElem?_eq_some_iff.1 hx).1
  have hj := (List.getElem?_eq_some_iff.1 hy).1
  unfold sw
  by_cases h1 : k = j
  · subst h1; rw [if_pos rfl, List.getElem?_set_self (by simpa using hj)]
  · rw [if_neg h1, List.getElem?_set_ne (Ne.symm h1)]
    by_cases h2 : k = i
    · subst h2; rw [if_pos rfl, List.getElem?_set_self hi]
    · rw [if_neg h2, List.getElem?_set_ne (Ne.symm h2)]
theorem sw_len (H : List β) (i j : Nat) (x y : β) : (sw H i j x y).length = H.length := by simp [sw]
theorem sK {H : List β} {i : Nat} {x : β} (hx : H[i]? = some x) (y : β) : (x :: H.set i y).Perm (y :: H) := by
  induction H generalizing i with
  | nil => simp at hx
  | cons z R ih =>
    match i, hx with
    | 0, hx =>
      simp at hx
      subst hx
      exact List.Perm.swap _ _ _
    | i + 1, hx =>
      have h := ih (i := i) (by simpa using hx)
      rw [List.set_cons_succ]
      exact (List.Perm.swap _ _ _).trans ((h.cons z).trans (List.Perm.swap _ _ _))
theorem sw_perm {H : List β} {i j : Nat} {x y : β} (hx : H[i]? = some x) (hy : H[j]? = some y) : (sw H i j x y).Perm H := by
  unfold sw
  by_cases hij : i = j
  · subst hij
    rw [hx] at hy
    cases hy
    obtain ⟨hi, he⟩ := List.getElem?_eq_some_iff.1 hx
    rw [List.set_set, ← he, List.set_getElem_self]
  · have hy' : (H.set i y)[j]? = some y := by rw [List.getElem?_set_ne hij]; exact hy
    have h1 := sK hx y
    have h2 := sK hy' x
    exact (List.perm_cons y).1 (h2.trans h1)
structure B6 (less : β → β → Bool) : Prop where
  asym : ∀ a b, less a b = true → less b a = false
  tran : ∀ a b c, less a b = false → less b c = false → less a c = false
theorem up_start {H : List β} {n : Nat} (h : HeapTo less n H) (hn : H.length = n) (x : β) : UpI less (n + 1) (H ++ [x]) n := by
  constructor
  · intro c h0 hc hne u v hu hv
    have hp : (c - 1) / 2 < H.length := by omega
    rw [List.getElem?_append_left hp] at hu
    rw [List.getElem?_append_left (by omega)] at hv
    exact h c h0 (by omega) u v hu hv
  · intro h0 c hc0 hc hp
    omega
theorem up_step (o : B6 less) {H : List β} {n j : Nat} {x y : β} (h : UpI less n H j) (h0 : 0 < j) (hj : j < n) (hx : H[(j - 1) / 2]? = some x) (hy : H[j]? = some y) (hl : less y x = true) : UpI less n (sw H ((j - 1) / 2) j x y) ((j - 1) / 2) := by
  have hxy := o.asym _ _ hl
  have hij : (j - 1) / 2 ≠ j := by omega
  constructor
  · intro c c0 hc hne u v hu hv
    rw [sw_get hx hy] at hu hv
    by_cases hcj : c = j
    · subst hcj
      rw [if_neg (by omega), if_pos rfl] at hu
      rw [if_pos rfl] at hv
      cases hu
      cases hv
      exact hxy
    · rw [if_neg hcj, if_neg hne] at hv
      by_cases hp : (c - 1) / 2 = j
      · rw [if_pos hp] at hu
        cases hu
        exact h.over h0 c c0 hc hp _ _ hx hv
      · rw [if_neg hp] at hu
        by_cases hp2 : (c - 1) / 2 = (j - 1) / 2
        · rw [if_pos hp2] at hu
          cases hu
          have h1 := h.rest c c0 hc hcj x v (by rw [hp2]; exact hx) hv
          exact o.tran _ _ _ h1 hxy
        · rw [if_neg hp2] at hu
          exact h.rest c c0 hc hcj u v hu hv
  · intro i0 c c0 hc hp u v hu hv
    rw [sw_get hx hy] at hu hv
    rw [if_neg (by omega), if_neg (by omega)] at hu
    have h1 : less x u = false := h.rest ((j - 1) / 2) i0 (by omega) hij u x hu hx
    by_cases hcj : c = j
    · subst hcj
      rw [if_pos rfl] at hv
      cases hv
      exact h1
    · rw [if_neg hcj, if_neg (by omega)] at hv
      have h2 := h.rest c c0 hc hcj x v (by rw [hp]; exact hx) hv
      exact o.tran _ _ _ h2 h1
theorem up_done {H : List β} {n j : Nat} (h : UpI less n H j) (hd : 0 < j → j < n → Ok less H ((j - 1) / 2) j) : HeapTo less n H := by
  intro c c0 hc
  by_cases hcj : c = j
  · subst hcj; exact hd c0 hc
  · exact h.rest c c0 hc hcj
theorem down_start {H H' : List β} {n : Nat} (h : HeapTo less n H) (he : ∀ k, 0 < k → k < n → H'[k]? = H[k]?) : DownI less n H' 0 := by
  constructor
  · intro c c0 hc hne u v hu hv
    rw [he c c0 hc] at hv
    rw [he _ (by omega) (by omega)] at hu
    exact h c c0 hc u v hu hv
  · intro h0
    omega
theorem down_step (o : B6 less) {H : List β} {n i j : Nat} {x y : β} (h : DownI less n H i) (hi : (j - 1) / 2 = i) (h0 : 0 < j) (hj : j < n) (hx : H[i]? = some x) (hy : H[j]? = some y) (hl : less y x = true) (hs : ∀ c, 0 < c → c < n → (c - 1) / 2 = i → ∀ v, H[c]? = some v → less v y = false) : DownI less n (sw H i j x y) j := by
  have hxy := o.asym _ _ hl
  have hij : i < j := by omega
  constructor
  · intro c c0 hc hne u v hu hv
    rw [sw_get hx hy] at hu hv
    rw [if_neg hne] at hu
    by_cases hcj : c = j
    · subst hcj
      rw [if_pos hi] at hu
      rw [if_pos rfl] at hv
      cases hu
      cases hv
      exact hxy
    · rw [if_neg hcj] at hv
      by_cases hp : (c - 1) / 2 = i
      · rw [if_pos hp] at hu
        rw [if_neg (by omega)] at hv
        cases hu
        exact hs c c0 hc hp v hv
      · rw [if_neg hp] at hu
        by_cases hci : c = i
        · rw [if_pos hci] at hv
          cases hv
          subst hci
          exact h.over c0 j h0 hj hi u y hu hy
        · rw [if_neg hci] at hv
          exact h.rest c c0 hc hp u v hu hv
  · intro _ c c0 hc hp u v hu hv
    rw [sw_get hx hy] at hu hv
    rw [if_neg (by omega), if_pos hi] at hu
    rw [if_neg (by omega), if_neg (by omega)] at hv
    cases hu
    exact h.rest c c0 hc (by omega) _ v (by rw [hp]; exact hy) hv
theorem down_done {H : List β} {n i : Nat} (h : DownI less n H i) (hd : ∀ c, 0 < c → c < n → (c - 1) / 2 = i → Ok less H i c) : HeapTo less n H := by
  intro c c0 hc
  by_cases hp : (c - 1) / 2 = i
  · rw [hp]; exact hd c c0 hc hp
  · exact h.rest c c0 hc hp
theorem down_up {H : List β} {n : Nat} (h : HeapTo less n H) : UpI less n H 0 := ⟨fun c c0 hc _ => h c c0 hc, fun h0 => by omega⟩
theorem HeapTo.fewer {H : List β} {n m : Nat} (h : HeapTo less n H) (hm : m ≤ n) : HeapTo less m H := fun c c0 hc => h c c0 (by omega)
theorem HeapTo.same {H H' : List β} {n : Nat} (h : HeapTo less n H) (he : ∀ k, k < n → H'[k]? = H[k]?) : HeapTo less n H' := fun c c0 hc u v hu hv => h c c0 hc u v (by rw [← he _ (by omega)]; exact hu) (by rw [← he _ hc]; exact hv)
theorem ul (o : B6 less) (irr : ∀ a, less a a = false) {H : List β} {n : Nat} (h : HeapTo less n H) {x : β} (hx : H[0]? = some x) : ∀ k, k < n → ∀ y, H[k]? = some y → less y x = false := by
  intro k
  induction k using Nat.strongRecOn with
  | _ k ih =>
    intro hk y hy
    by_cases k0 : k = 0
    · subst k0
      rw [hx] at hy
      cases hy
      exact irr x
    · have hl := (List.getElem?_eq_some_iff.1 hy).1
      have hp := List.getElem?_eq_getElem (l := H) (i := (k - 1) / 2) (by omega)
      have h1 := ih ((k - 1) / 2) (by omega) (by omega) _ hp
      have h2 := h k (by omega) hk _ y hp hy
      exact o.tran _ _ _ h2 h1
/-! Lists in order, and what is alike. -/
section
variable {α : Type} {lt : α → α → Bool}
structure Wk (lt : α → α → Bool) : Prop where
  irr : ∀ a, lt a a = false
  asym : ∀ a b, lt a b = true → lt b a = false
  tran : ∀ a b c, lt a b = false → lt b c = false → lt a c = false
def eqv (lt : α → α → Bool) (a b : α) : Bool := !lt a b && !lt b a
theorem je (o : Wk lt) (a : α) : eqv lt a a = true := by simp [eqv, o.irr]
theorem rF {a b : α} (h : lt a b = true) : eqv lt a b = false := by simp [eqv, h]
def Asc (lt : α → α → Bool) (L : List α) : Prop := L.Pairwise (fun a b => lt b a = false)
theorem yW (o : Wk lt) {a b c : α} (h1 : lt a b = true) (h2 : lt c b = false) : lt a c = true := by
  cases h : lt a c with
  | true => rfl
  | false =>
    have := o.tran _ _ _ h h2
    rw [h1] at this
    cases this
theorem eqv_lt (o : Wk lt) {e m x : α} (he : eqv lt e m = true) (h : lt m x = true) : eqv lt e x = false := by
  simp only [eqv, Bool.and_eq_true, Bool.not_eq_true'] at he
  refine rF ?_
  cases h' : lt e x with
  | true => rfl
  | false =>
    have := o.tran _ _ _ he.2 h'
    rw [h] at this
    cases this
theorem pt (o : Wk lt) : ∀ {A B : List α}, Asc lt A → Asc lt B → (∀ e, A.filter (eqv lt e) = B.filter (eqv lt e)) → A = B
  | [], [], _, _, _ => rfl
  | [], b :: B, _, _, h => by
    have := h b
    rw [List.filter_cons_of_pos (je o b)] at this
    cases this
  | a :: A, [], _, _, h => by
    have := h a
    rw [List.filter_cons_of_pos (je o a)] at this
    cases this
  | a :: A, b :: B, hA, hB, h => by
    obtain ⟨a1, a2⟩ := List.pairwise_cons.1 hA
    obtain ⟨b1, b2⟩ := List.pairwise_cons.1 hB
    have ma : a ∈ b :: B := by
      have : a ∈ (b :: B).filter (eqv lt a) := by rw [← h a, List.filter_cons_of_pos (je o a)]; exact List.mem_cons_self
      exact (List.mem_filter.1 this).1
    have mb : b ∈ a :: A := by
      have : b ∈ (a :: A).filter (eqv lt b) := by rw [h b, List.filter_cons_of_pos (je o b)]; exact List.mem_cons_self
      exact (List.mem_filter.1 this).1
    have h1 : lt a b = false := by
      rcases List.mem_cons.1 ma with e | e
      · rw [e]; exact o.irr b
      · exact b1 a e
    have h2 : lt b a = false := by
      rcases List.mem_cons.1 mb with e | e
      · rw [e]; exact o.irr a
      · exact a1 b e
    have hab : a = b := by
      have := h a
      rw [List.filter_cons_of_pos (je o a), List.filter_cons_of_pos (show eqv lt a b = true by simp [eqv, h1, h2])] at this
      exact (List.cons.inj this).1
    subst hab
    rw [pt o a2 b2 (fun e => ?_)]
    have := h e
    by_cases he : eqv lt e a = true
    · rw [List.filter_cons_of_pos he, List.filter_cons_of_pos he] at this
      exact (List.cons.inj this).2
    · rw [List.filter_cons_of_neg he, List.filter_cons_of_neg he] at this
      exact this
/-! Stretches: what is left of each, by number, and those that are left, in whatever order. -/
def lessS (lt : α → α → Bool) (s t : List α × Nat) : Bool :=
  match s.1, t.1 with
  | a :: _, b :: _ => lt a b || (!lt b a && decide (s.2 < t.2))
  | [], [] => decide (s.2 < t.2)
  | [], _ :: _ => true
  | _ :: _, [] => false
theorem lessS_irr (o : Wk lt) (s : List α × Nat) : lessS lt s s = false := by
  unfold lessS
  split <;> simp_all [o.irr]
theorem lessS_ord (o : Wk lt) : B6 (lessS lt) where
  asym := by
    rintro ⟨s, i⟩ ⟨t, j⟩ h
    match s, t with
    | [], [] => simp [lessS] at h ⊢; omega
    | [], b :: _ => simp [lessS]
    | a :: _, [] => simp [lessS] at h
    | a :: _, b :: _ =>
      simp only [lessS, Bool.or_eq_true, Bool.and_eq_true, Bool.not_eq_true', decide_eq_true_eq, Bool.or_eq_false_iff, Bool.and_eq_false_iff, Bool.not_eq_false', decide_eq_false_iff_not] at h ⊢
      rcases h with h | ⟨h1, h2⟩
      · exact ⟨o.asym _ _ h, .inl h⟩
      · exact ⟨h1, .inr (by omega)⟩
  tran := by
    rintro ⟨s, i⟩ ⟨t, j⟩ ⟨u, k⟩ h1 h2
    match s, t, u with
    | [], [], [] => simp [lessS] at h1 h2 ⊢; omega
    | [], [], _ :: _ => simp [lessS] at h2
    | [], _ :: _, _ => simp [lessS] at h1
    | _ :: _, [], _ :: _ => simp [lessS] at h2
    | _ :: _, _, [] => simp [lessS]
    | a :: _, b :: _, c :: _ =>
      simp only [lessS, Bool.or_eq_false_iff, Bool.and_eq_false_iff, Bool.not_eq_false', decide_eq_false_iff_not] at h1 h2 ⊢
      refine ⟨o.tran _ _ _ h1.1 h2.1, ?_⟩
      cases hca : lt c a with
      | true => exact .inl rfl
      | false =>
        right
        have e1 : lt b a = false := o.tran _ _ _ h2.1 hca |> fun h => by
          exact h
        have e2 : lt c b = false := o.tran _ _ _ hca h1.1
        rcases h1.2 with h | h
        · rw [e1] at h; cases h
        · rcases h2.2 with h' | h'
          · rw [e2] at h'; cases h'
          · omega
structure MSt (lt : α → α → Bool) (flat out : List α) (Z : List (List α)) : Prop where
  asc : Asc lt out
  low : ∀ a ∈ out, ∀ r ∈ Z.flatten, lt r a = false
  parts : ∀ l ∈ Z, Asc lt l
  same : ∀ e, out.filter (eqv lt e) ++ Z.flatten.filter (eqv lt e) = flat.filter (eqv lt e)
theorem MSt.start {Z : List (List α)} (h : ∀ l ∈ Z, Asc lt l) : MSt lt Z.flatten [] Z := ⟨List.Pairwise.nil, fun a ha => (by cases ha), h, fun e => rfl⟩
theorem MSt.done (o : Wk lt) {flat out D : List α} {Z : List (List α)} (h : MSt lt flat out Z) (hz : Z.flatten = []) (hD : Asc lt D) (hs : ∀ e, D.filter (eqv lt e) = flat.filter (eqv lt e)) : out = D :=
  pt o h.asc hD (fun e => by have := h.same e; rw [hz] at this; rw [hs e, ← this]; simp)
theorem MSt.step (o : Wk lt) {flat out r : List α} {Z : List (List α)} {at' : Nat} {m : α} (h : MSt lt flat out Z) (hz : Z[at']? = some (m :: r)) (hmin : ∀ k b l, Z[k]? = some (b :: l) → lessS lt (b :: l, k) (m :: r, at') = false) : MSt lt flat (out ++ [m]) (Z.set at' r) := by
  obtain ⟨hl, he⟩ := List.getElem?_eq_some_iff.1 hz
  have hZ : Z = Z.take at' ++ (m :: r) :: Z.drop (at' + 1) := by
    conv => lhs; rw [← List.take_append_drop at' Z]
    rw [List.drop_eq_getElem_cons hl, he]
  obtain ⟨A, B, hA, hlen⟩ : ∃ A B, Z = A ++ (m :: r) :: B ∧ A.length = at' := ⟨_, _, hZ, by rw [List.length_take]; omega⟩
  have hset : Z.set at' r = A ++ r :: B := by
    rw [hA, List.set_append_right _ _ (by omega), hlen]
    simp
  have hf : Z.flatten = A.flatten ++ (m :: (r ++ B.flatten)) := by rw [hA]; simp
  have hf' : (Z.set at' r).flatten = A.flatten ++ (r ++ B.flatten) := by rw [hset]; simp
  have hsub : ∀ x ∈ (Z.set at' r).flatten, x ∈ Z.flatten := fun x hx => by
    rw [hf'] at hx
    rw [hf]
    rcases List.mem_append.1 hx with h1 | h1
    · exact List.mem_append_left _ h1
    · exact List.mem_append_right _ (List.mem_cons_of_mem _ h1)
  -- each other part's elements are not ahead of m; those of parts before are vc it
  have hall : ∀ k l, Z[k]? = some l → ∀ x ∈ l, lt x m = false ∧ (k < at' → lt m x = true) := by
    intro k l hk x hx
    match l, hk, hx with
    | b :: l', hk, hx =>
      have h1 := hmin k b l' hk
      simp only [lessS, Bool.or_eq_false_iff, Bool.and_eq_false_iff, Bool.not_eq_false', decide_eq_false_iff_not] at h1
      have hp := List.pairwise_cons.1 (h.parts _ (List.mem_of_getElem? hk))
      have hxb : lt x b = false := by
        rcases List.mem_cons.1 hx with e | e
        · rw [e]; exact o.irr b
        · exact hp.1 x e
      refine ⟨o.tran _ _ _ hxb h1.1, fun hk' => ?_⟩
      rcases h1.2 with h2 | h2
      · exact yW o h2 hxb
      · omega
  have hge : ∀ x ∈ Z.flatten, lt x m = false := fun x hx => by
    obtain ⟨l, hlZ, hxl⟩ := List.mem_flatten.1 hx
    obtain ⟨k, hk⟩ := List.getElem?_of_mem hlZ
    exact (hall k l hk x hxl).1
  have hA' : ∀ x ∈ A.flatten, lt m x = true := fun x hx => by
    obtain ⟨l, hlA, hxl⟩ := List.mem_flatten.1 hx
    obtain ⟨k, hk⟩ := List.getElem?_of_mem hlA
    have hkl := (List.getElem?_eq_some_iff.1 hk).1
    exact (hall k l (by rw [hA, List.getElem?_append_left hkl]; exact hk) x hxl).2 (by omega)
  have hmZ : m ∈ Z.flatten := by rw [hf]; simp
  refine ⟨?_, ?_, ?_, ?_⟩
  · unfold Asc
    rw [List.pairwise_append]
    refine ⟨h.asc, List.pairwise_singleton _ _, fun a ha b hb => ?_⟩
    rw [List.mem_singleton] at hb
    subst hb
    exact h.low a ha _ hmZ
  · intro a ha x hx
    rcases List.mem_append.1 ha with h1 | h1
    · exact h.low a h1 x (hsub x hx)
    · rw [List.mem_singleton] at h1
      subst h1
      exact hge x (hsub x hx)
  · intro l hl'
    rw [hset] at hl'
    rcases List.mem_append.1 hl' with h1 | h1
    · exact h.parts l (by rw [hA]; exact List.mem_append_left _ h1)
    · rcases List.mem_cons.1 h1 with rfl | h1
      · exact (List.pairwise_cons.1 (h.parts (m :: l) (by rw [hA]; simp))).2
      · exact h.parts l (by rw [hA]; exact List.mem_append_right _ (List.mem_cons_of_mem _ h1))
  · intro e
    have hs := h.same e
    rw [hf] at hs
    rw [hf', ← hs]
    by_cases hem : eqv lt e m = true
    · have h0 : A.flatten.filter (eqv lt e) = [] := List.filter_eq_nil_iff.2 (fun x hx => by rw [eqv_lt o hem (hA' x hx)]; simp)
      simp [List.filter_append, h0, hem]
    · simp [List.filter_append, hem]
structure HSt (H : List (List α × Nat)) (Z : List (List α)) : Prop where
  live : ∀ s ∈ H, s.1 ≠ [] ∧ Z[s.2]? = some s.1
  has : ∀ (k : Nat) b l, Z[k]? = some (b :: l) → (b :: l, k) ∈ H
  once : (H.map Prod.snd).Nodup
theorem HSt.perm {H H' : List (List α × Nat)} {Z : List (List α)} (h : HSt H Z) (p : H'.Perm H) : HSt H' Z :=
  ⟨fun s hs => h.live s (p.mem_iff.1 hs), fun k b l hk => p.mem_iff.2 (h.has k b l hk), ((p.map Prod.snd).nodup_iff).2 h.once⟩
theorem HSt.none {Z : List (List α)} (h : HSt [] Z) : Z.flatten = [] := by
  rw [List.flatten_eq_nil_iff]
  intro l hl
  match l, hl with
  | [], _ => rfl
  | b :: l, hl =>
    obtain ⟨k, hk⟩ := List.getElem?_of_mem hl
    have := h.has k b l hk
    cases this
theorem HSt.nil : HSt ([] : List (List α × Nat)) [] := ⟨fun s hs => (by cases hs), fun k b l hk => (by simp at hk), List.Pairwise.nil⟩
theorem HSt.push {H : List (List α × Nat)} {Z : List (List α)} (h : HSt H Z) {b : α} {l : List α} : HSt (H ++ [(b :: l, Z.length)]) (Z ++ [b :: l]) := by
  refine ⟨fun s hs => ?_, fun k c m hk => ?_, ?_⟩
  · rcases List.mem_append.1 hs with h1 | h1
    · have h2 := h.live s h1
      have hlt := (List.getElem?_eq_some_iff.1 h2.2).1
      exact ⟨h2.1, by rw [List.getElem?_append_left hlt]; exact h2.2⟩
    · rw [List.mem_singleton] at h1
      subst h1
      exact ⟨by simp, by simp⟩
  · by_cases hk' : k < Z.length
    · rw [List.getElem?_append_left hk'] at hk
      exact List.mem_append_left _ (h.has k c m hk)
    · have hlt := (List.getElem?_eq_some_iff.1 hk).1
      simp at hlt
      have : k = Z.length := by omega
      subst this
      simp at hk
      obtain ⟨rfl, rfl⟩ := hk
      simp
  · rw [List.map_append, List.nodup_append]
    refine ⟨h.once, by simp, fun a ha b hb => ?_⟩
    simp only [List.map_cons, List.map_nil, List.mem_singleton] at hb
    obtain ⟨s, hs, rfl⟩ := List.mem_map.1 ha
    have hlt := (List.getElem?_eq_some_iff.1 (h.live s hs).2).1
    omega
theorem HSt.more {m c : α} {l : List α} {k : Nat} {R : List (List α × Nat)} {Z : List (List α)} (h : HSt ((m :: c :: l, k) :: R) Z) : HSt ((c :: l, k) :: R) (Z.set k (c :: l)) := by
  have hk := (h.live _ List.mem_cons_self).2
  simp only at hk
  have hlt := (List.getElem?_eq_some_iff.1 hk).1
  have ho := h.once
  rw [List.map_cons, List.nodup_cons] at ho
  refine ⟨fun s hs => ?_, fun j b r hj => ?_, by rw [List.map_cons, List.nodup_cons]; exact ho⟩
  · rcases List.mem_cons.1 hs with rfl | hs
    · exact ⟨by simp, by simp only; rw [List.getElem?_set_self hlt]⟩
    · have h2 := h.live s (List.mem_cons_of_mem _ hs)
      refine ⟨h2.1, ?_⟩
      rw [List.getElem?_set_ne]
      · exact h2.2
      · intro e
        exact ho.1 (List.mem_map.2 ⟨s, hs, e.symm⟩)
  · by_cases e : j = k
    · subst e
      rw [List.getElem?_set_self hlt] at hj
      cases hj
      exact List.mem_cons_self
    · rw [List.getElem?_set_ne (fun h => e h.symm)] at hj
      rcases List.mem_cons.1 (h.has j b r hj) with h1 | h1
      · exact absurd (Prod.mk.inj h1).2 e
      · exact List.mem_cons_of_mem _ h1
theorem HSt.last {m : α} {k : Nat} {R : List (List α × Nat)} {Z : List (List α)} (h : HSt (([m], k) :: R) Z) : HSt R (Z.set k []) := by
  have hk := (h.live _ List.mem_cons_self).2
  simp only at hk
  have hlt := (List.getElem?_eq_some_iff.1 hk).1
  have ho := h.once
  rw [List.map_cons, List.nodup_cons] at ho
  refine ⟨fun s hs => ?_, fun j b r hj => ?_, ho.2⟩
  · have h2 := h.live s (List.mem_cons_of_mem _ hs)
    refine ⟨h2.1, ?_⟩
    rw [List.getElem?_set_ne]
    · exact h2.2
    · intro e
      exact ho.1 (List.mem_map.2 ⟨s, hs, e.symm⟩)
  · by_cases e : j = k
    · subst e
      rw [List.getElem?_set_self hlt] at hj
      cases hj
    · rw [List.getElem?_set_ne (fun h => e h.symm)] at hj
      rcases List.mem_cons.1 (h.has j b r hj) with h1 | h1
      · exact absurd (Prod.mk.inj h1).2 e
      · exact h1
theorem HSt.least (o : Wk lt) {m : α} {r : List α} {k : Nat} {R : List (List α × Nat)} {Z : List (List α)} (h : HSt ((m :: r, k) :: R) Z) (hh : HeapTo (lessS lt) (R.length + 1) ((m :: r, k) :: R)) : Z[k]? = some (m :: r) ∧ ∀ j b l, Z[j]? = some (b :: l) → lessS lt (b :: l, j) (m :: r, k) = false := by
  refine ⟨(h.live _ List.mem_cons_self).2, fun j b l hj => ?_⟩
  obtain ⟨i, hi⟩ := List.getElem?_of_mem (h.has j b l hj)
  have hlt := (List.getElem?_eq_some_iff.1 hi).1
  exact ul (lessS_ord o) (lessS_irr o) hh (x := (m :: r, k)) rfl i (by simpa using hlt) _ hi
end
end Mg
end Go.Proofs.YtpobkmjicbobdaaGreat
namespace Go.Proofs.YtpobkmjicbobdaaGreat
set_option maxRecDepth 100000
set_option maxHeartbeats 40000000
open Go.RowKit
theorem uH {x y:ac} (h:aP x y=true):aP y x=false:=by
 cases h':aP y x with
 | false=>rfl
 | true =>
  have h1:aP x x=true:=gN h h';unfold aP at h1;rw [gq] at h1;cases h1
theorem dH:Mg.Wk aP:=⟨fun _=>gq _ _,fun _ _ h=>uH h,fun _ _ _ h1 h2=>iE h1 h2⟩
theorem ut (A:List ac) (x e:ac):(d5 A x).filter (Mg.eqv aP e)=A.filter (Mg.eqv aP e)++[x].filter (Mg.eqv aP e):=by
 unfold d5;rw [List.filter_append,List.filter_append];have hA:A.filter (Mg.eqv aP e)=(A.take (jF A x A.length)).filter (Mg.eqv aP e)++(A.drop (jF A x A.length)).filter (Mg.eqv aP e):=by
  rw [← List.filter_append,List.take_append_drop]
 rw [hA];by_cases he:Mg.eqv aP e x=true
 · have h0:(A.drop (jF A x A.length)).filter (Mg.eqv aP e)=[]:=List.filter_eq_nil_iff.2 (fun y hy=>by
    obtain ⟨k,hk⟩:=List.getElem?_of_mem hy;rw [List.getElem?_drop] at hk;have hl:=(List.getElem?_eq_some_iff.1 hk).1;have:=l8 A x A.length _ y (Nat.le_add_right _ k) hl hk;rw [Mg.eqv_lt dH he this];simp)
   rw [h0];simp
 · have h0:[x].filter (Mg.eqv aP e)=[]:=by simp [he]
   rw [h0];simp
theorem sI (L:List ac) (e:ac):(bk L).filter (Mg.eqv aP e)=L.filter (Mg.eqv aP e):=by
 have key:∀(L A:List ac),(L.foldl d5 A).filter (Mg.eqv aP e)=A.filter (Mg.eqv aP e)++L.filter (Mg.eqv aP e):=by
  intro L;induction L with
  | nil=>intro A;simp
  | cons x R ih =>
   intro A;rw [List.foldl_cons,ih,ut,List.append_assoc,← List.filter_append];rfl
 have:=key L [];simpa [bk] using this
theorem yG (L:List ac):Mg.Asc aP (bk L):=(bJ L).1
theorem uC {flat out:List ac} {Z:List (List ac)} (h:Mg.MSt aP flat out Z) (hH:Mg.HSt [] Z):out=bk flat:=h.done dH hH.none (yG flat) (sI flat)
theorem xy (g n c i j b1 o1 n1 c1 b2 o2 n2 c2:Nat) (k1 k2:Int) (s t s' t':ByteArray) (q d m q' d' m':Int) (w:World) (hi:i<n) (hj:j<n) (h1:0<n1) (h2:0<n2)
 (x0:w.cell? ⟨g,i*2,none⟩=some (sO b1 o1 n1 c1)) (x1:w.cell? ⟨g,i*2+1,none⟩=some (iT k1))
 (y0:w.cell? ⟨g,j*2,none⟩=some (sO b2 o2 n2 c2)) (y1:w.cell? ⟨g,j*2+1,none⟩=some (iT k2))
 (e0:w.cell? ⟨b1,o1,none⟩=some (.string s)) (e1:w.cell? ⟨b1,o1+1,none⟩=some (iT q)) (e2:w.cell? ⟨b1,o1+2,none⟩=some (iT d)) (e3:w.cell? ⟨b1,o1+3,none⟩=some (.string t)) (e4:w.cell? ⟨b1,o1+4,none⟩=some (iT m))
 (f0:w.cell? ⟨b2,o2,none⟩=some (.string s')) (f1:w.cell? ⟨b2,o2+1,none⟩=some (iT q')) (f2:w.cell? ⟨b2,o2+2,none⟩=some (iT d')) (f3:w.cell? ⟨b2,o2+3,none⟩=some (.string t')) (f4:w.cell? ⟨b2,o2+4,none⟩=some (iT m')) :
 Calls Tryz.prog 307 #[sL g n c,iT i,iT j] w fun e w'=>e=.returned (.bool (decide ((if jT s q s' q'=0 then Lib.compareInt k1 k2 else jT s q s' q')<0)))∧Bl w w':=by
 have hiI:(i:Int)<(n:Int):=by omega
 have hjI:(j:Int)<(n:Int):=by omega
 have zg:=World.block_lt_of_cell? _ _ x0;have z1:=World.block_lt_of_cell? _ _ e0;have z2:=World.block_lt_of_cell? _ _ f0;simp only at zg z1 z2;obtain ⟨C,hC⟩:=aS (jT s q s' q');obtain ⟨D,hD⟩:=aS (Lib.compareInt k1 k2);have c1':∀w,Calls Tryz.prog 218 #[.agg #[.string s,iT q,iT d,.string t,iT m],.agg #[.string s',iT q',iT d',.string t',iT m']] w fun e w'=>e=.returned (iT C)∧Bl w w':=by rw [hC];exact qD s t s' t' q d m q' d' m'
 have c2':∀w,Calls Tryz.prog 170 #[iT k1,iT k2] w fun e w'=>e=.returned (iT D)∧w'=w:=by rw [hD];exact oU k1 k2
 obtain ⟨O,hO⟩:=aS (if C=0 then D else C);have c3':∀b c w,w.cell? ⟨b,0,none⟩=some (iT C)→w.cell? ⟨b,1,none⟩=some (iT D)→Calls Tryz.prog 242 #[sL b 2 c] w fun e w'=>e=.returned (iT O)∧w'=w:=by
  rw [hO];exact fun b c w g0 g1=>AT C D b c w g0 g1
 rw [← hC,← hD,← hO];clear hC hD hO;have k0:Bl w w.drew:=(Below.refl _ w).drew;have HMK:Hid (∀w',Bl w w'→(w'.cell? ⟨g,i*2,none⟩=some (sO b1 o1 n1 c1)∧w'.cell? ⟨g,i*2+1,none⟩=some (iT k1)∧w'.cell? ⟨g,j*2,none⟩=some (sO b2 o2 n2 c2)∧w'.cell? ⟨g,j*2+1,none⟩=some (iT k2)∧w'.cell? ⟨b1,o1,none⟩=some (.string s)∧w'.cell? ⟨b1,o1+1,none⟩=some (iT q)∧w'.cell? ⟨b1,o1+2,none⟩=some (iT d)∧w'.cell? ⟨b1,o1+3,none⟩=some (.string t)∧w'.cell? ⟨b1,o1+4,none⟩=some (iT m)∧w'.cell? ⟨b2,o2,none⟩=some (.string s')∧w'.cell? ⟨b2,o2+1,none⟩=some (iT q')∧w'.cell? ⟨b2,o2+2,none⟩=some (iT d')∧w'.cell? ⟨b2,o2+3,none⟩=some (.string t')∧w'.cell? ⟨b2,o2+4,none⟩=some (iT m')∧g<w'.heap.size∧b1<w'.heap.size∧b2<w'.heap.size)):=fun w' k=>⟨cell_later k x0,cell_later k x1,cell_later k y0,cell_later k y1,cell_later k e0,cell_later k e1,cell_later k e2,cell_later k e3,cell_later k e4,cell_later k f0,cell_later k f1,cell_later k f2,cell_later k f3,cell_later k f4,Nat.lt_of_lt_of_le zg k.size,Nat.lt_of_lt_of_le z1 k.size,Nat.lt_of_lt_of_le z2 k.size⟩
 clear x0 x1 y0 y1 e0 e1 e2 e3 e4 f0 f1 f2 f3 f4 zg z1 z2;go_enter Tryz.func307,Tryz.ntmps307
 go_wp2_with fail
 refine eC HMK k0 fun aa=>?_
 refine aO 0 14 aa ?_;refine aO 15 10 aa ?_;refine aI 14 fun K hK=>?_
 go_simp;refine (c1' _).mono ?_;rintro e w1 ⟨rfl,b1'⟩;have kk1:Bl w w1:=k0.trans (b1'.mono k0.size);go_wp2_with fail
 refine hK.out _ _ (HMK.out _ kk1) fun aa=>?_
 (try go_frame);refine aI 25 fun K hK=>?_
 go_simp;refine (c2' _).mono ?_;rintro e w2 ⟨rfl,rfl⟩;go_wp2_with fail
 refine hK.out _ _ (HMK.out _ kk1) fun aa=>?_
 (try go_frame);refine aI 26 fun K hK=>?_
 go_simp;have kk2:=kk1.alloc kk1.size (.cells #[iT C,iT D] 3);refine hK.out _ _ (HMK.out _ kk2) fun aa=>?_
 (try go_frame);refine aI 27 fun K hK=>?_
 go_simp;refine (c3' _ _ _ (by simp) (by simp)).mono ?_;rintro e w3 ⟨rfl,rfl⟩;go_wp2_with fail
 refine hK.out _ _ (HMK.out _ kk2) fun aa=>?_
 (try go_frame);refine aO 28 2 aa ?_;refine dN ?_;clear HMK aa;go_wp2;go_ret;exact ⟨rfl,kk2⟩
theorem sY (a b:ac):jT a.1 a.2.1 b.1 b.2.1=0 ↔ aP a b=false∧aP b a=false:=by
 constructor
 · intro h;have h1:aP a b=false:=by
    unfold aP;rw [← iB,h];rfl
   refine ⟨h1,?_⟩;unfold jT at h;rcases il a.1.data.toList b.1.data.toList with ⟨e,_,_⟩ | ⟨e,_,e2⟩ | ⟨e,_,_⟩
   · rw [e] at h;simp at h
   · rw [e] at h;simp only [if_true] at h;have hk:a.1=b.1:=ByteArray.ext (Array.toList_inj.1 e2);have hq:a.2.1=b.2.1:=by
      unfold Lib.compareInt at h;by_cases g:b.2.1<a.2.1
      · simp [g] at h
      · by_cases g':b.2.1 > a.2.1
        · simp [g,g'] at h
        · omega
     unfold aP;rw [hk,hq];exact gq _ _
   · rw [e] at h;simp at h
 · rintro ⟨h1,h2⟩;obtain ⟨hk,hq⟩:=qv h1 h2;unfold jT;rw [hk,hq];rcases il b.1.data.toList b.1.data.toList with ⟨_,_,e⟩ | ⟨e,_,_⟩ | ⟨_,_,e⟩
   · exact absurd rfl e
   · rw [e];simp [Lib.compareInt]
   · exact absurd rfl e
theorem xA (a b:ac) (l r:List ac) (i j:Nat):decide ((if jT a.1 a.2.1 b.1 b.2.1=0 then Lib.compareInt i j else jT a.1 a.2.1 b.1 b.2.1)<0)=Mg.lessS aP (a :: l,i) (b :: r,j):=by
 unfold Mg.lessS;simp only;by_cases h:jT a.1 a.2.1 b.1 b.2.1=0
 · obtain ⟨h1,h2⟩:=(sY a b).1 h;rw [if_pos h,h1,h2];simp only [Bool.false_or,Bool.not_false,Bool.true_and];rw [decide_eq_decide];unfold Lib.compareInt;by_cases g:(i:Int)<(j:Int)
   · simp [g];omega
   · by_cases g':(i:Int) > (j:Int)
     · simp [g,g'];omega
     · simp [g,g'];omega
 · rw [if_neg h,iB];show aP a b=_
   cases h1:aP a b with
   | true=>rfl
   | false =>
    cases h2:aP b a with
    | true=>rfl
    | false=>exact absurd ((sY a b).2 ⟨h1,h2⟩) h
end Go.Proofs.YtpobkmjicbobdaaGreat
