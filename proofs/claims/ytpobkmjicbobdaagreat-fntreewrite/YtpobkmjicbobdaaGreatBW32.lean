/- Walks. -/
import Derived.Test.YtpobkmjicbobdaaGreatBW31
namespace Go.Proofs.YtpobkmjicbobdaaGreat
namespace Mg
variable {β : Type} {less : β → β → Bool}
def Ok (less : β → β → Bool) (H : List β) (p c : Nat) : Prop := ∀ x y, H[p]? = some x → H[c]? = some y → less y x = false
def HeapTo (less : β → β → Bool) (n : Nat) (H : List β) : Prop := ∀ c, 0 < c → c < n → Ok less H ((c - 1) / 2) c
structure UpI (less : β → β → Bool) (n : Nat) (H : List β) (j : Nat) : Prop where
  rest : ∀ c, 0 < c → c < n → c ≠ j → Ok less H ((c - 1) / 2) c
  over : 0 < j → ∀ c, 0 < c → c < n → (c - 1) / 2 = j → Ok less H ((j - 1) / 2) c
structure DownI (less : β → β → Bool) (n : Nat) (H : List β) (i : Nat) : Prop where
  rest : ∀ c, 0 < c → c < n → (c - 1) / 2 ≠ i → Ok less H ((c - 1) / 2) c
  over : 0 < i → ∀ c, 0 < c → c < n → (c - 1) / 2 = i → Ok less H ((i - 1) / 2) c
def sw (H : List β) (i j : Nat) (x y : β) : List β := (H.set i y).set j x
theorem sw_get {H : List β} {i j : Nat} {x y : β} (hx : H[i]? = some x) (hy : H[j]? = some y) (k : Nat) : (sw H i j x y)[k]? = if k = j then some x else if k = i then some y else H[k]? := by
  have hi := (F'.1 hx).1
  have b := (F'.1 hy).1
  unfold sw
  by_cases h1 : k = j
  · subst h1; rw [if_pos rfl, Hp (by simpa using b)]
  · rw [if_neg h1, G9 (IX h1)]
    by_cases h2 : k = i
    · subst h2; rw [if_pos rfl, Hp hi]
    · rw [if_neg h2, G9 (IX h2)]
theorem sw_len (H : List β) (i j : Nat) (x y : β) : (sw H i j x y).length = H.length := by simp [sw]
theorem vH {H : List β} {i : Nat} {x : β} (hx : H[i]? = some x) (y : β) : (x :: H.set i y).Perm (y :: H) := by
  induction H generalizing i with
  | nil => simp at hx
  | cons z R b =>
    match i, hx with
    | 0, hx =>
      simp at hx
      subst hx
      exact List.Perm.swap _ _ _
    | i + 1, hx =>
      have h := b (i := i) (by simpa using hx)
      rw [IC]
      exact (List.Perm.swap _ _ _).trans ((h.cons z).trans (List.Perm.swap _ _ _))
theorem sw_perm {H : List β} {i j : Nat} {x y : β} (hx : H[i]? = some x) (hy : H[j]? = some y) : (sw H i j x y).Perm H := by
  unfold sw
  by_cases b : i = j
  · subst b
    rw [hx] at hy
    cases hy
    obtain ⟨hi, e⟩ := F'.1 hx
    rw [List.set_set, ← e, List.set_getElem_self]
  · have d : (H.set i y)[j]? = some y := by rw [G9 b]; exact hy
    have h1 := vH hx y
    have h2 := vH d x
    exact (List.perm_cons y).1 (h2.trans h1)
structure Gn (less : β → β → Bool) : Prop where
  asym : ∀ a b, less a b = true → less b a = false
  tran : ∀ a b c, less a b = false → less b c = false → less a c = false
theorem up_start {H : List β} {n : Nat} (h : HeapTo less n H) (hn : H.length = n) (x : β) : UpI less (n + 1) (H ++ [x]) n := by
  constructor
  · intro c h0 hc d u v b hv
    have hp : (c - 1) / 2 < H.length := by omega
    rw [GW hp] at b
    rw [GW (by omega)] at hv
    exact h c h0 (by omega) u v b hv
  · intro h0 c e hc hp
    omega
theorem up_step (o : Gn less) {H : List β} {n j : Nat} {x y : β} (h : UpI less n H j) (h0 : 0 < j) (s : j < n) (hx : H[(j - 1) / 2]? = some x) (hy : H[j]? = some y) (hl : less y x = true) : UpI less n (sw H ((j - 1) / 2) j x y) ((j - 1) / 2) := by
  have f := o.asym _ _ hl
  have r : (j - 1) / 2 ≠ j := by omega
  constructor
  · intro c c0 hc m u v d hv
    rw [sw_get hx hy] at d hv
    by_cases b : c = j
    · subst b
      rw [if_neg (by omega), if_pos rfl] at d
      rw [if_pos rfl] at hv
      cases d
      cases hv
      exact f
    · rw [if_neg b, if_neg m] at hv
      by_cases hp : (c - 1) / 2 = j
      · rw [if_pos hp] at d
        cases d
        exact h.over h0 c c0 hc hp _ _ hx hv
      · rw [if_neg hp] at d
        by_cases e : (c - 1) / 2 = (j - 1) / 2
        · rw [if_pos e] at d
          cases d
          have h1 := h.rest c c0 hc b x v (by rw [e]; exact hx) hv
          exact o.tran _ _ _ h1 f
        · rw [if_neg e] at d
          exact h.rest c c0 hc b u v d hv
  · intro i0 c c0 hc hp u v d hv
    rw [sw_get hx hy] at d hv
    rw [if_neg (by omega), if_neg (by omega)] at d
    have h1 : less x u = false := h.rest ((j - 1) / 2) i0 (by omega) r u x d hx
    by_cases b : c = j
    · subst b
      rw [if_pos rfl] at hv
      cases hv
      exact h1
    · rw [if_neg b, if_neg (by omega)] at hv
      have h2 := h.rest c c0 hc b x v (by rw [hp]; exact hx) hv
      exact o.tran _ _ _ h2 h1
theorem up_done {H : List β} {n j : Nat} (h : UpI less n H j) (hd : 0 < j → j < n → Ok less H ((j - 1) / 2) j) : HeapTo less n H := by
  intro c c0 hc
  by_cases b : c = j
  · subst b; exact hd c0 hc
  · exact h.rest c c0 hc b
theorem down_start {H e : List β} {n : Nat} (h : HeapTo less n H) (b : ∀ k, 0 < k → k < n → e[k]? = H[k]?) : DownI less n e 0 := by
  constructor
  · intro c c0 hc f u v d hv
    rw [b c c0 hc] at hv
    rw [b _ (by omega) (by omega)] at d
    exact h c c0 hc u v d hv
  · intro h0
    omega
theorem down_step (o : Gn less) {H : List β} {n i j : Nat} {x y : β} (h : DownI less n H i) (hi : (j - 1) / 2 = i) (h0 : 0 < j) (s : j < n) (hx : H[i]? = some x) (hy : H[j]? = some y) (hl : less y x = true) (hs : ∀ c, 0 < c → c < n → (c - 1) / 2 = i → ∀ v, H[c]? = some v → less v y = false) : DownI less n (sw H i j x y) j := by
  have f := o.asym _ _ hl
  have r : i < j := by omega
  constructor
  · intro c c0 hc m u v b hv
    rw [sw_get hx hy] at b hv
    rw [if_neg m] at b
    by_cases e : c = j
    · subst e
      rw [if_pos hi] at b
      rw [if_pos rfl] at hv
      cases b
      cases hv
      exact f
    · rw [if_neg e] at hv
      by_cases hp : (c - 1) / 2 = i
      · rw [if_pos hp] at b
        rw [if_neg (by omega)] at hv
        cases b
        exact hs c c0 hc hp v hv
      · rw [if_neg hp] at b
        by_cases d : c = i
        · rw [if_pos d] at hv
          cases hv
          subst d
          exact h.over c0 j h0 s hi u y b hy
        · rw [if_neg d] at hv
          exact h.rest c c0 hc hp u v b hv
  · intro _ c c0 hc hp u v b hv
    rw [sw_get hx hy] at b hv
    rw [if_neg (by omega), if_pos hi] at b
    rw [if_neg (by omega), if_neg (by omega)] at hv
    cases b
    exact h.rest c c0 hc (by omega) _ v (by rw [hp]; exact hy) hv
theorem down_done {H : List β} {n i : Nat} (h : DownI less n H i) (hd : ∀ c, 0 < c → c < n → (c - 1) / 2 = i → Ok less H i c) : HeapTo less n H := by
  intro c c0 hc
  by_cases hp : (c - 1) / 2 = i
  · rw [hp]; exact hd c c0 hc hp
  · exact h.rest c c0 hc hp
theorem down_up {H : List β} {n : Nat} (h : HeapTo less n H) : UpI less n H 0 := ⟨fun c c0 hc _ => h c c0 hc, fun h0 => by omega⟩
theorem HeapTo.fewer {H : List β} {n m : Nat} (h : HeapTo less n H) (hm : m ≤ n) : HeapTo less m H := fun c c0 hc => h c c0 (by omega)
theorem HeapTo.same {H H' : List β} {n : Nat} (h : HeapTo less n H) (b : ∀ k, k < n → H'[k]? = H[k]?) : HeapTo less n H' := fun c c0 hc u v d hv => h c c0 hc u v (by rw [← b _ (by omega)]; exact d) (by rw [← b _ hc]; exact hv)
theorem x6 (o : Gn less) (b : ∀ a, less a a = false) {H : List β} {n : Nat} (h : HeapTo less n H) {x : β} (hx : H[0]? = some x) : ∀ k, k < n → ∀ y, H[k]? = some y → less y x = false := by
  intro k
  induction k using Nat.strongRecOn with
  | _ k d =>
    intro hk y hy
    by_cases e : k = 0
    · subst e
      rw [hx] at hy
      cases hy
      exact b x
    · have hl := (F'.1 hy).1
      have hp := j' (l := H) (i := (k - 1) / 2) (by omega)
      have h1 := d ((k - 1) / 2) (by omega) (by omega) _ hp
      have h2 := h k (by omega) hk _ y hp hy
      exact o.tran _ _ _ h2 h1
/-! Lists in order, and what is alike. -/
section
variable {α : Type} {lt : α → α → Bool}
structure Wk (lt : α → α → Bool) : Prop where
  irr : ∀ a, lt a a = false
  asym : ∀ a b, lt a b = true → lt b a = false
  tran : ∀ a b c, lt a b = false → lt b c = false → lt a c = false
def eqv (lt : α → α → Bool) (a b : α) : Bool := !lt a b && !lt b a
theorem kO (o : Wk lt) (a : α) : eqv lt a a = true := by simp [eqv, o.irr]
theorem uP {a b : α} (h : lt a b = true) : eqv lt a b = false := by simp [eqv, h]
def Asc (lt : α → α → Bool) (L : List α) : Prop := L.Pairwise (fun a b => lt b a = false)
theorem Dh (o : Wk lt) {a b c : α} (h1 : lt a b = true) (h2 : lt c b = false) : lt a c = true := by
  cases h : lt a c with
  | true => rfl
  | false =>
    have := o.tran _ _ _ h h2
    rw [h1] at this
    cases this
theorem eqv_lt (o : Wk lt) {e m x : α} (b : eqv lt e m = true) (h : lt m x = true) : eqv lt e x = false := by
  simp only [eqv, G2, Jh] at b
  refine uP ?_
  cases h' : lt e x with
  | true => rfl
  | false =>
    have := o.tran _ _ _ b.2 h'
    rw [h] at this
    cases this
theorem r9 (o : Wk lt) : ∀ {A B : List α}, Asc lt A → Asc lt B → (∀ e, A.filter (eqv lt e) = B.filter (eqv lt e)) → A = B
  | [], [], _, _, _ => rfl
  | [], b :: B, _, _, h => by
    have := h b
    rw [IN (kO o b)] at this
    cases this
  | a :: A, [], _, _, h => by
    have := h a
    rw [IN (kO o a)] at this
    cases this
  | a :: A, b :: B, hA, hB, h => by
    obtain ⟨a1, a2⟩ := Hb.1 hA
    obtain ⟨b1, b2⟩ := Hb.1 hB
    have r : a ∈ b :: B := by
      have : a ∈ (b :: B).filter (eqv lt a) := by rw [← h a, IN (kO o a)]; exact Ha
      exact (ID.1 this).1
    have m : b ∈ a :: A := by
      have : b ∈ (a :: A).filter (eqv lt b) := by rw [h b, IN (kO o b)]; exact Ha
      exact (ID.1 this).1
    have h1 : lt a b = false := by
      rcases GZ.1 r with e | e
      · rw [e]; exact o.irr b
      · exact b1 a e
    have h2 : lt b a = false := by
      rcases GZ.1 m with e | e
      · rw [e]; exact o.irr a
      · exact a1 b e
    have f : a = b := by
      have := h a
      rw [IN (kO o a), IN (show eqv lt a b = true by simp [eqv, h1, h2])] at this
      exact (List.cons.inj this).1
    subst f
    rw [r9 o a2 b2 (fun e => ?_)]
    have := h e
    by_cases d : eqv lt e a = true
    · rw [IN d, IN d] at this
      exact (List.cons.inj this).2
    · rw [List.filter_cons_of_neg d, List.filter_cons_of_neg d] at this
      exact this
/-! Stretches: what is left of each, by number, and those that are left, in whatever order. -/
def lessS (lt : α → α → Bool) (s t : List α × Nat) : Bool :=
  match s.1, t.1 with
  | a :: _, b :: _ => lt a b || (!lt b a && decide (s.2 < t.2))
  | [], [] => decide (s.2 < t.2)
  | [], _ :: _ => true
  | _ :: _, [] => false
theorem lessS_irr (o : Wk lt) (s : List α × Nat) : lessS lt s s = false := by
  unfold lessS
  split <;> simp_all [o.irr]
theorem lessS_ord (o : Wk lt) : Gn (lessS lt) where
  asym := by
    rintro ⟨s, i⟩ ⟨t, j⟩ h
    match s, t with
    | [], [] => simp [lessS] at h ⊢; omega
    | [], b :: _ => simp [lessS]
    | a :: _, [] => simp [lessS] at h
    | a :: _, b :: _ =>
      simp only [lessS, Jd, G2, Jh, decide_eq_true_eq, Bool.or_eq_false_iff, Jm, Bool.not_eq_false', decide_eq_false_iff_not] at h ⊢
      rcases h with h | ⟨h1, h2⟩
      · exact ⟨o.asym _ _ h, .inl h⟩
      · exact ⟨h1, .inr (by omega)⟩
  tran := by
    rintro ⟨s, i⟩ ⟨t, j⟩ ⟨u, k⟩ h1 h2
    match s, t, u with
    | [], [], [] => simp [lessS] at h1 h2 ⊢; omega
    | [], [], _ :: _ => simp [lessS] at h2
    | [], _ :: _, _ => simp [lessS] at h1
    | _ :: _, [], _ :: _ => simp [lessS] at h2
    | _ :: _, _, [] => simp [lessS]
    | a :: _, b :: _, c :: _ =>
      simp only [lessS, Bool.or_eq_false_iff, Jm, Bool.not_eq_false', decide_eq_false_iff_not] at h1 h2 ⊢
      refine ⟨o.tran _ _ _ h1.1 h2.1, ?_⟩
      cases hca : lt c a with
      | true => exact .inl rfl
      | false =>
        right
        have e1 : lt b a = false := o.tran _ _ _ h2.1 hca |> fun h => by
          exact h
        have e2 : lt c b = false := o.tran _ _ _ hca h1.1
        rcases h1.2 with h | h
        · rw [e1] at h; cases h
        · rcases h2.2 with h' | h'
          · rw [e2] at h'; cases h'
          · omega
structure MSt (lt : α → α → Bool) (flat out : List α) (Z : List (List α)) : Prop where
  asc : Asc lt out
  low : ∀ a ∈ out, ∀ r ∈ Z.flatten, lt r a = false
  parts : ∀ l ∈ Z, Asc lt l
  same : ∀ e, out.filter (eqv lt e) ++ Z.flatten.filter (eqv lt e) = flat.filter (eqv lt e)
theorem MSt.start {Z : List (List α)} (h : ∀ l ∈ Z, Asc lt l) : MSt lt Z.flatten [] Z := ⟨List.Pairwise.nil, fun a ha => (by cases ha), h, fun e => rfl⟩
theorem MSt.done (o : Wk lt) {b d D : List α} {Z : List (List α)} (h : MSt lt b d Z) (hz : Z.flatten = []) (hD : Asc lt D) (hs : ∀ e, D.filter (eqv lt e) = b.filter (eqv lt e)) : d = D :=
  r9 o h.asc hD (fun e => by have := h.same e; rw [hz] at this; rw [hs e, ← this]; simp)
theorem MSt.step (o : Wk lt) {d C r : List α} {Z : List (List α)} {at' : Nat} {m : α} (h : MSt lt d C Z) (hz : Z[at']? = some (m :: r)) (D : ∀ k b l, Z[k]? = some (b :: l) → lessS lt (b :: l, k) (m :: r, at') = false) : MSt lt d (C ++ [m]) (Z.set at' r) := by
  obtain ⟨hl, T⟩ := F'.1 hz
  have R : Z = Z.take at' ++ (m :: r) :: Z.drop (at' + 1) := by
    conv => lhs; rw [← Hh at' Z]
    rw [Ie hl, T]
  obtain ⟨A, B, hA, hlen⟩ : ∃ A B, Z = A ++ (m :: r) :: B ∧ A.length = at' := ⟨_, _, R, by rw [GS]; omega⟩
  have f : Z.set at' r = A ++ r :: B := by
    rw [hA, Iq _ _ (by omega), hlen]
    simp
  have hf : Z.flatten = A.flatten ++ (m :: (r ++ B.flatten)) := by rw [hA]; simp
  have E : (Z.set at' r).flatten = A.flatten ++ (r ++ B.flatten) := by rw [f]; simp
  have t : ∀ x ∈ (Z.set at' r).flatten, x ∈ Z.flatten := fun x hx => by
    rw [E] at hx
    rw [hf]
    rcases GX.1 hx with h1 | h1
    · exact Jp _ h1
    · exact List.mem_append_right _ (He _ h1)
  -- each other part's elements are not ahead of m; those of parts before are uX it
  have s : ∀ k l, Z[k]? = some l → ∀ x ∈ l, lt x m = false ∧ (k < at' → lt m x = true) := by
    intro k l hk x hx
    match l, hk, hx with
    | b :: U, hk, hx =>
      have h1 := D k b U hk
      simp only [lessS, Bool.or_eq_false_iff, Jm, Bool.not_eq_false', decide_eq_false_iff_not] at h1
      have hp := Hb.1 (h.parts _ (GP hk))
      have F : lt x b = false := by
        rcases GZ.1 hx with e | e
        · rw [e]; exact o.irr b
        · exact hp.1 x e
      refine ⟨o.tran _ _ _ F h1.1, fun Q => ?_⟩
      rcases h1.2 with h2 | h2
      · exact Dh o h2 F
      · omega
  have I : ∀ x ∈ Z.flatten, lt x m = false := fun x hx => by
    obtain ⟨l, O, u⟩ := IS.1 hx
    obtain ⟨k, hk⟩ := Hr O
    exact (s k l hk x u).1
  have L : ∀ x ∈ A.flatten, lt m x = true := fun x hx => by
    obtain ⟨l, N, u⟩ := IS.1 hx
    obtain ⟨k, hk⟩ := Hr N
    have J := (F'.1 hk).1
    exact (s k l (by rw [hA, GW J]; exact hk) x u).2 (by omega)
  have K : m ∈ Z.flatten := by rw [hf]; simp
  refine ⟨?_, ?_, ?_, ?_⟩
  · unfold Asc
    rw [Ih]
    refine ⟨h.asc, Jb _ _, fun a ha b hb => ?_⟩
    rw [G5] at hb
    subst hb
    exact h.low a ha _ K
  · intro a ha x hx
    rcases GX.1 ha with h1 | h1
    · exact h.low a h1 x (t x hx)
    · rw [G5] at h1
      subst h1
      exact I x (t x hx)
  · intro l H
    rw [f] at H
    rcases GX.1 H with h1 | h1
    · exact h.parts l (by rw [hA]; exact Jp _ h1)
    · rcases GZ.1 h1 with rfl | h1
      · exact (Hb.1 (h.parts (m :: l) (by rw [hA]; simp))).2
      · exact h.parts l (by rw [hA]; exact List.mem_append_right _ (He _ h1))
  · intro e
    have hs := h.same e
    rw [hf] at hs
    rw [E, ← hs]
    by_cases y : eqv lt e m = true
    · have h0 : A.flatten.filter (eqv lt e) = [] := Im.2 (fun x hx => by rw [eqv_lt o y (L x hx)]; simp)
      simp [h0, y]
    · simp [y]
structure HSt (H : List (List α × Nat)) (Z : List (List α)) : Prop where
  live : ∀ s ∈ H, s.1 ≠ [] ∧ Z[s.2]? = some s.1
  has : ∀ (k : Nat) b l, Z[k]? = some (b :: l) → (b :: l, k) ∈ H
  once : (H.map Prod.snd).Nodup
theorem HSt.perm {H d : List (List α × Nat)} {Z : List (List α)} (h : HSt H Z) (p : d.Perm H) : HSt d Z :=
  ⟨fun s hs => h.live s (p.mem_iff.1 hs), fun k b l hk => p.mem_iff.2 (h.has k b l hk), ((p.map Prod.snd).nodup_iff).2 h.once⟩
theorem HSt.none {Z : List (List α)} (h : HSt [] Z) : Z.flatten = [] := by
  rw [List.flatten_eq_nil_iff]
  intro l hl
  match l, hl with
  | [], _ => rfl
  | b :: l, hl =>
    obtain ⟨k, hk⟩ := Hr hl
    have := h.has k b l hk
    cases this
theorem HSt.nil : HSt ([] : List (List α × Nat)) [] := ⟨fun s hs => (by cases hs), fun k b l hk => (by simp at hk), List.Pairwise.nil⟩
theorem HSt.push {H : List (List α × Nat)} {Z : List (List α)} (h : HSt H Z) {b : α} {l : List α} : HSt (H ++ [(b :: l, Z.length)]) (Z ++ [b :: l]) := by
  refine ⟨fun s hs => ?_, fun k c m hk => ?_, ?_⟩
  · rcases GX.1 hs with h1 | h1
    · have h2 := h.live s h1
      have d := (F'.1 h2.2).1
      exact ⟨h2.1, by rw [GW d]; exact h2.2⟩
    · rw [G5] at h1
      subst h1
      exact ⟨by simp, by simp⟩
  · by_cases e : k < Z.length
    · rw [GW e] at hk
      exact Jp _ (h.has k c m hk)
    · have d := (F'.1 hk).1
      simp at d
      have : k = Z.length := by omega
      subst this
      simp at hk
      obtain ⟨rfl, rfl⟩ := hk
      simp
  · rw [Iw, List.nodup_append]
    refine ⟨h.once, by simp, fun a ha b hb => ?_⟩
    simp only [IH, I9, G5] at hb
    obtain ⟨s, hs, rfl⟩ := Ib.1 ha
    have d := (F'.1 (h.live s hs).2).1
    omega
theorem HSt.more {m c : α} {l : List α} {k : Nat} {R : List (List α × Nat)} {Z : List (List α)} (h : HSt ((m :: c :: l, k) :: R) Z) : HSt ((c :: l, k) :: R) (Z.set k (c :: l)) := by
  have hk := (h.live _ Ha).2
  simp only at hk
  have d := (F'.1 hk).1
  have ho := h.once
  rw [IH, Jr] at ho
  refine ⟨fun s hs => ?_, fun j b r f => ?_, by rw [IH, Jr]; exact ho⟩
  · rcases GZ.1 hs with rfl | hs
    · exact ⟨by simp, by simp only; rw [Hp d]⟩
    · have h2 := h.live s (He _ hs)
      refine ⟨h2.1, ?_⟩
      rw [G9]
      · exact h2.2
      · intro e
        exact ho.1 (Ib.2 ⟨s, hs, e.symm⟩)
  · by_cases e : j = k
    · subst e
      rw [Hp d] at f
      cases f
      exact Ha
    · rw [G9 (fun h => e h.symm)] at f
      rcases GZ.1 (h.has j b r f) with h1 | h1
      · exact absurd (Prod.mk.inj h1).2 e
      · exact He _ h1
theorem HSt.last {m : α} {k : Nat} {R : List (List α × Nat)} {Z : List (List α)} (h : HSt (([m], k) :: R) Z) : HSt R (Z.set k []) := by
  have hk := (h.live _ Ha).2
  simp only at hk
  have f := (F'.1 hk).1
  have ho := h.once
  rw [IH, Jr] at ho
  refine ⟨fun s hs => ?_, fun j b r d => ?_, ho.2⟩
  · have h2 := h.live s (He _ hs)
    refine ⟨h2.1, ?_⟩
    rw [G9]
    · exact h2.2
    · intro e
      exact ho.1 (Ib.2 ⟨s, hs, e.symm⟩)
  · by_cases e : j = k
    · subst e
      rw [Hp f] at d
      cases d
    · rw [G9 (fun h => e h.symm)] at d
      rcases GZ.1 (h.has j b r d) with h1 | h1
      · exact absurd (Prod.mk.inj h1).2 e
      · exact h1
theorem HSt.least (o : Wk lt) {m : α} {r : List α} {k : Nat} {R : List (List α × Nat)} {Z : List (List α)} (h : HSt ((m :: r, k) :: R) Z) (hh : HeapTo (lessS lt) (R.length + 1) ((m :: r, k) :: R)) : Z[k]? = some (m :: r) ∧ ∀ j b l, Z[j]? = some (b :: l) → lessS lt (b :: l, j) (m :: r, k) = false := by
  refine ⟨(h.live _ Ha).2, fun j b l e => ?_⟩
  obtain ⟨i, hi⟩ := Hr (h.has j b l e)
  have d := (F'.1 hi).1
  exact x6 (lessS_ord o) (lessS_irr o) hh (x := (m :: r, k)) rfl i (by simpa using d) _ hi
end
end Mg
end Go.Proofs.YtpobkmjicbobdaaGreat
namespace Go.Proofs.YtpobkmjicbobdaaGreat
set_option maxRecDepth 100000
set_option maxHeartbeats 40000000
open Go.RowKit
variable {BH base c g i j k n:Nat} {w w':World}
theorem yC {x y:ac} (h:aU x y=true):aU y x=false:=by
 cases h':aU y x with
 | false=>rfl
 | true =>
  have h1:=fJ h h';unfold aU at h1;rw [iy] at h1;cases h1
theorem d5:Mg.Wk aU:=⟨fun _=>iy _ _,fun _ _ h=>yC h,fun _ _ _ h1 h2=>jD h1 h2⟩
theorem yg (A:List ac) (x e:ac):(eI A x).filter (Mg.eqv aU e)=A.filter (Mg.eqv aU e)++[x].filter (Mg.eqv aU e):=by
 unfold eI;rw [Hw,Hw];have hA:A.filter (Mg.eqv aU e)=(A.take (lW A x A.length)).filter (Mg.eqv aU e)++(A.drop (lW A x A.length)).filter (Mg.eqv aU e):=by
  rw [← Hw,Hh]
 rw [hA];by_cases b:Mg.eqv aU e x=true
 · have h0:(A.drop (lW A x A.length)).filter (Mg.eqv aU e)=[]:=Im.2 (fun y hy=>by
    obtain ⟨k,hk⟩:=Hr hy;rw [H9] at hk;have hl:=(F'.1 hk).1;have:=oz A x A.length _ y (Nat.le_add_right _ k) hl hk;rw [Mg.eqv_lt d5 b this];simp)
   rw [h0];simp
 · have h0:[x].filter (Mg.eqv aU e)=[]:=by simp [b]
   rw [h0];simp
theorem vD (L:List ac) (e:ac):(aS L).filter (Mg.eqv aU e)=L.filter (Mg.eqv aU e):=by
 have key:∀(L A:List ac),(L.foldl eI A).filter (Mg.eqv aU e)=A.filter (Mg.eqv aU e)++L.filter (Mg.eqv aU e):=by
  intro L;induction L with
  | nil=>intro A;simp
  | cons x R b =>
   intro A;rw [List.foldl_cons,b,yg,Hd,← Hw];rfl
 have:=key L [];simpa [aS] using this
theorem Cu (L:List ac):Mg.Asc aU (aS L):=(bu L).1
theorem yw {flat b:List ac} {Z:List (List ac)} (h:Mg.MSt aU flat b Z) (d:Mg.HSt [] Z):b=aS flat:=h.done d5 d.none (Cu flat) (vD flat)
theorem Bb (g n c i j b1 u U c1 b2 r n2 c2:Nat) (k1 k2:Int) (s t A F:ByteArray) (q d m E H I:Int) (w:World) (hi:i<n) (hj:j<n) (h1:0<U) (h2:0<n2)
 (x0:w.cell? ⟨g,i*2,none⟩=some (sO b1 u U c1)) (x1:w.cell? ⟨g,i*2+1,none⟩=some (iT k1))
 (y0:w.cell? ⟨g,j*2,none⟩=some (sO b2 r n2 c2)) (y1:w.cell? ⟨g,j*2+1,none⟩=some (iT k2))
 (e0:w.cell? ⟨b1,u,none⟩=some (.string s)) (e1:w.cell? ⟨b1,u+1,none⟩=some (iT q)) (e2:w.cell? ⟨b1,u+2,none⟩=some (iT d)) (e3:w.cell? ⟨b1,u+3,none⟩=some (.string t)) (e4:w.cell? ⟨b1,u+4,none⟩=some (iT m))
 (f0:w.cell? ⟨b2,r,none⟩=some (.string A)) (f1:w.cell? ⟨b2,r+1,none⟩=some (iT E)) (f2:w.cell? ⟨b2,r+2,none⟩=some (iT H)) (f3:w.cell? ⟨b2,r+3,none⟩=some (.string F)) (f4:w.cell? ⟨b2,r+4,none⟩=some (iT I)) :
 Calls Tryz.prog 307 #[sL g n c,iT i,iT j] w fun e w'=>e=.returned (.bool (decide ((if kK s q A E=0 then Lib.compareInt k1 k2 else kK s q A E)<0)))∧Bl w w':=by
 have Y:(i:Int)<(n:Int):=by omega
 have a1:(j:Int)<(n:Int):=by omega
 have J:=GK _ _ x0;have Q:=GK _ _ e0;have N:=GK _ _ f0;simp only at J Q N;obtain ⟨C,hC⟩:=aG (kK s q A E);obtain ⟨D,hD⟩:=aG (Lib.compareInt k1 k2);have L:∀w,Calls Tryz.prog 218 #[.agg #[.string s,iT q,iT d,.string t,iT m],.agg #[.string A,iT E,iT H,.string F,iT I]] w fun e w'=>e=.returned (iT C)∧Bl w w':=by rw [hC];exact lK s t A F q d m E H I
 have T:∀w,Calls Tryz.prog 170 #[iT k1,iT k2] w fun e w'=>e=.returned (iT D)∧w'=w:=by rw [hD];exact jG k1 k2
 obtain ⟨O,hO⟩:=aG (if C=0 then D else C);have W:∀b c w,w.cell? ⟨b,0,none⟩=some (iT C)→w.cell? ⟨b,1,none⟩=some (iT D)→Calls Tryz.prog 242 #[sL b 2 c] w fun e w'=>e=.returned (iT O)∧w'=w:=by
  rw [hO];exact fun b c w Z g1=>Fk C D b c w Z g1
 rw [← hC,← hD,← hO];clear hC hD hO;have R:Bl w w.drew:=(Below.refl _ w).drew;have f:Eq (∀w',Bl w w'→(w'.cell? ⟨g,i*2,none⟩=some (sO b1 u U c1)∧w'.cell? ⟨g,i*2+1,none⟩=some (iT k1)∧w'.cell? ⟨g,j*2,none⟩=some (sO b2 r n2 c2)∧w'.cell? ⟨g,j*2+1,none⟩=some (iT k2)∧w'.cell? ⟨b1,u,none⟩=some (.string s)∧w'.cell? ⟨b1,u+1,none⟩=some (iT q)∧w'.cell? ⟨b1,u+2,none⟩=some (iT d)∧w'.cell? ⟨b1,u+3,none⟩=some (.string t)∧w'.cell? ⟨b1,u+4,none⟩=some (iT m)∧w'.cell? ⟨b2,r,none⟩=some (.string A)∧w'.cell? ⟨b2,r+1,none⟩=some (iT E)∧w'.cell? ⟨b2,r+2,none⟩=some (iT H)∧w'.cell? ⟨b2,r+3,none⟩=some (.string F)∧w'.cell? ⟨b2,r+4,none⟩=some (iT I)∧g<w'.heap.size∧b1<w'.heap.size∧b2<w'.heap.size)):=fun w' k=>⟨cell_later k x0,cell_later k x1,cell_later k y0,cell_later k y1,cell_later k e0,cell_later k e1,cell_later k e2,cell_later k e3,cell_later k e4,cell_later k f0,cell_later k f1,cell_later k f2,cell_later k f3,cell_later k f4,E' J k.size,E' Q k.size,E' N k.size⟩
 clear x0 x1 y0 y1 e0 e1 e2 e3 e4 f0 f1 f2 f3 f4 J Q N;go_enter Tryz.func307,Tryz.ntmps307
 go_wp2_with fail
 refine eJ f R fun y=>?_
 refine aR 0 14 y ?_;refine aR 15 10 y ?_;refine aV 14 fun K hK=>?_
 go_simp;refine (L _).mono ?_;rintro e w1 ⟨rfl,X⟩;have x:Bl w w1:=R.trans (X.mono R.size);go_wp2_with fail
 refine hK.o _ _ (f.o _ x) fun y=>?_
 (try go_frame);refine aV 25 fun K hK=>?_
 go_simp;refine (T _).mono ?_;rintro e w2 ⟨rfl,rfl⟩;go_wp2_with fail
 refine hK.o _ _ (f.o _ x) fun y=>?_
 (try go_frame);refine aV 26 fun K hK=>?_
 go_simp;have B:=x.alloc x.size (.cells #[iT C,iT D] 3);refine hK.o _ _ (f.o _ B) fun y=>?_
 (try go_frame);refine aV 27 fun K hK=>?_
 go_simp;refine (W _ _ _ (by simp) (by simp)).mono ?_;rintro e w3 ⟨rfl,rfl⟩;go_wp2_with fail
 refine hK.o _ _ (f.o _ B) fun y=>?_
 (try go_frame);refine aR 28 2 y ?_;refine dN ?_;clear f y;go_wp2;go_ret;exact ⟨rfl,B⟩
theorem vY (a b:ac):kK a.1 a.2.1 b.1 b.2.1=0 ↔ aU a b=false∧aU b a=false:=by
 constructor
 · intro h;have h1:aU a b=false:=by
    unfold aU;rw [← iu,h];rfl
   refine ⟨h1,?_⟩;unfold kK at h;rcases jo a.1.data.toList b.1.data.toList with ⟨e,_,_⟩ | ⟨e,_,e2⟩ | ⟨e,_,_⟩
   · rw [e] at h;simp at h
   · rw [e] at h;simp only [if_true] at h;have hk:=IP (II.1 e2);have hq:a.2.1=b.2.1:=by
      unfold Lib.compareInt at h;by_cases g:b.2.1<a.2.1
      · simp [g] at h
      · by_cases d:b.2.1 > a.2.1
        · simp [g,d] at h
        · omega
     unfold aU;rw [hk,hq];exact iy _ _
   · rw [e] at h;simp at h
 · rintro ⟨h1,h2⟩;obtain ⟨hk,hq⟩:=tz h1 h2;unfold kK;rw [hk,hq];rcases jo b.1.data.toList b.1.data.toList with ⟨_,_,e⟩ | ⟨e,_,_⟩ | ⟨_,_,e⟩
   · exact absurd rfl e
   · rw [e];simp [Lib.compareInt]
   · exact absurd rfl e
theorem Bc (a b:ac) (l r:List ac) (i j:Nat):decide ((if kK a.1 a.2.1 b.1 b.2.1=0 then Lib.compareInt i j else kK a.1 a.2.1 b.1 b.2.1)<0)=Mg.lessS aU (a :: l,i) (b :: r,j):=by
 unfold Mg.lessS;simp only;by_cases h:kK a.1 a.2.1 b.1 b.2.1=0
 · obtain ⟨h1,h2⟩:=(vY a b).1 h;rw [if_pos h,h1,h2];simp only [Bool.false_or,Bool.not_false,Bool.true_and];rw [decide_eq_decide];unfold Lib.compareInt;by_cases g:(i:Int)<(j:Int)
   · simp [g];omega
   · by_cases d:(i:Int) > (j:Int)
     · simp [g,d];omega
     · simp [g,d];omega
 · rw [if_neg h,iu];show aU a b=_
   cases h1:aU a b with
   | true=>rfl
   | false =>
    cases h2:aU b a with
    | true=>rfl
    | false=>exact absurd ((vY a b).2 ⟨h1,h2⟩) h
theorem q9 (BH g n c : Nat) (w : World) (hb : w.cell? ⟨BH, 0, none⟩ = some (.slice (some ⟨g, 0, none⟩) n c)) : (method 400 162 (.pointer (some ⟨BH, 0, none⟩)) "Less").run Tryz.prog w = .ok (307, .slice (some ⟨g, 0, none⟩) n c) w := by
 obtain ⟨i,hi⟩:∃i,Tryz.prog.info? 162=some i:=Ja.1 (by kernel_rfl)
 have hm : ((Tryz.prog.info? 162).bind fun i => i.methods.find? (·.name == "Less")).map (fun m => (m.func, m.path)) = some (some (307, false), #[]) := by kernel_rfl
 rw [hi] at hm
 simp only [Option.bind_some] at hm
 obtain ⟨m,h1,h2⟩:=Option.map_eq_some_iff.1 hm
 simp only [Prod.mk.injEq] at h2
 have e:Tryz.prog.underlying 162=some (.pointer 157):=by kernel_rfl
 have b : ∀ (t : TypeId) (a : Addr) (s : String), Builtin.ssaWrapNilChk_ #[t] t #[.pointer (some a), strVal "", strVal s] = pure (.pointer (some a)) := fun _ _ _ => rfl
 have d:∀w,(isAgg 157).run Tryz.prog w=.ok false w:=fun _=>by kernel_rfl
 unfold method
 simp [typeInfo,hi,h1,h2.1,h2.2,follow,receiverAt,Place.get,b,loadVar,d,hb,go_sem,run_underlying e]
theorem qZ (BH g n c : Nat) (w : World) (hb : w.cell? ⟨BH, 0, none⟩ = some (.slice (some ⟨g, 0, none⟩) n c)) : (method 400 162 (.pointer (some ⟨BH, 0, none⟩)) "Swap").run Tryz.prog w = .ok (308, .slice (some ⟨g, 0, none⟩) n c) w := by
 obtain ⟨i,hi⟩:∃i,Tryz.prog.info? 162=some i:=Ja.1 (by kernel_rfl)
 have hm : ((Tryz.prog.info? 162).bind fun i => i.methods.find? (·.name == "Swap")).map (fun m => (m.func, m.path)) = some (some (308, false), #[]) := by kernel_rfl
 rw [hi] at hm
 simp only [Option.bind_some] at hm
 obtain ⟨m,h1,h2⟩:=Option.map_eq_some_iff.1 hm
 simp only [Prod.mk.injEq] at h2
 have e:Tryz.prog.underlying 162=some (.pointer 157):=by kernel_rfl
 have b : ∀ (t : TypeId) (a : Addr) (s : String), Builtin.ssaWrapNilChk_ #[t] t #[.pointer (some a), strVal "", strVal s] = pure (.pointer (some a)) := fun _ _ _ => rfl
 have d:∀w,(isAgg 157).run Tryz.prog w=.ok false w:=fun _=>by kernel_rfl
 unfold method
 simp [typeInfo,hi,h1,h2.1,h2.2,follow,receiverAt,Place.get,b,loadVar,d,hb,go_sem,run_underlying e]
theorem DF (BH g n c : Nat) (w : World) (hb : w.cell? ⟨BH, 0, none⟩ = some (.slice (some ⟨g, 0, none⟩) n c)) : (method 400 162 (.pointer (some ⟨BH, 0, none⟩)) "Len").run Tryz.prog w = .ok (306, .slice (some ⟨g, 0, none⟩) n c) w := by
 obtain ⟨i,hi⟩:∃i,Tryz.prog.info? 162=some i:=Ja.1 (by kernel_rfl)
 have hm : ((Tryz.prog.info? 162).bind fun i => i.methods.find? (·.name == "Len")).map (fun m => (m.func, m.path)) = some (some (306, false), #[]) := by kernel_rfl
 rw [hi] at hm
 simp only [Option.bind_some] at hm
 obtain ⟨m,h1,h2⟩:=Option.map_eq_some_iff.1 hm
 simp only [Prod.mk.injEq] at h2
 have e:Tryz.prog.underlying 162=some (.pointer 157):=by kernel_rfl
 have b : ∀ (t : TypeId) (a : Addr) (s : String), Builtin.ssaWrapNilChk_ #[t] t #[.pointer (some a), strVal "", strVal s] = pure (.pointer (some a)) := fun _ _ _ => rfl
 have d:∀w,(isAgg 157).run Tryz.prog w=.ok false w:=fun _=>by kernel_rfl
 unfold method
 simp [typeInfo,hi,h1,h2.1,h2.2,follow,receiverAt,Place.get,b,loadVar,d,hb,go_sem,run_underlying e]
theorem FD (BH : Nat) (w : World) : (method 400 162 (.pointer (some ⟨BH, 0, none⟩)) "Push").run Tryz.prog w = .ok (310, .pointer (some ⟨BH, 0, none⟩)) w := by kernel_rfl
theorem FZ (BH : Nat) (w : World) : (method 400 162 (.pointer (some ⟨BH, 0, none⟩)) "Pop").run Tryz.prog w = .ok (309, .pointer (some ⟨BH, 0, none⟩)) w := by kernel_rfl
structure dF (w:World) (base BH g n c:Nat) (X:List df) (H:List (List ac × Nat)):Prop where
 box:w.cell? ⟨BH,0,none⟩=some (sL g n c)
 own:ib w base g n c X
 len:H.length=n
 rest:∀(k:Nat) x h,X[k]?=some x→H[k]?=some h→∃l,h=(l,x.2.2.2.2)∧ah w (some ⟨x.1,x.2.1,none⟩) x.2.2.1 x.2.2.2.1 l∧x.1<w.heap.size∧x.1≠g∧x.1≠BH
 ne:BH≠g
theorem dF.grown {X f:List df} {H H':List (List ac × Nat)} (h:dF w base BH g n c X H) (hg:w.grownBy w' (some g)) (hO:ib w' base g n c f) (hl:H'.length=n) (hs:∀(k:Nat) x s,f[k]?=some x→H'[k]?=some s→∃b:Nat,X[b]?=some x∧H[b]?=some s):dF w' base BH g n c f H':=by
 have d:=GK _ _ h.box;refine ⟨?_,hO,hl,fun k x s hx hh=>?_,h.ne⟩
 · rw [Hz (a:=⟨BH,0,none⟩) (hg.block BH d (fun e=>h.ne (GN e)))];exact h.box
 · obtain ⟨b,h1,h2⟩:=hs k x s hx hh;obtain ⟨l,m,r2,r3,r4⟩:=h.rest b x s h1 h2;refine ⟨l,m,r2.grownB hg (fun y o _=>?_),E' r3 hg.size,r4⟩;cases o;exact fun e=>r4.1 (GN e)
theorem dF.below {X:List df} {H:List (List ac × Nat)} (h:dF w base BH g n c X H) (hb:Bl w w'):dF w' base BH g n c X H:=by
 exact h.grown ⟨hb.os,hb.tape,hb.output,hb.size,fun k hk _=>hb.block k hk⟩ (h.own.below hb) h.len (fun k x s hx hh=>⟨k,hx,hh⟩)
theorem dF.swap {X:List df} {H:List (List ac × Nat)} {x y:df} {u v:List ac × Nat} (h:dF w base BH g n c X H) (hx:X[i]?=some x) (hy:X[j]?=some y) (b:H[i]?=some u) (hv:H[j]?=some v) (hg:w.grownBy w' (some g)) (hO:ib w' base g n c ((X.set i y).set j x)):dF w' base BH g n c (Mg.sw X i j x y) (Mg.sw H i j u v):=by
 refine h.grown hg hO (by rw [Mg.sw_len];exact h.len) (fun k z s hz hs=>?_);rw [Mg.sw_get hx hy] at hz;rw [Mg.sw_get b hv] at hs;by_cases h1:k=j
 · rw [if_pos h1] at hz hs;exact ⟨i,by rw [hx];exact hz,by rw [b];exact hs⟩
 · rw [if_neg h1] at hz hs;by_cases h2:k=i
   · rw [if_pos h2] at hz hs;exact ⟨j,by rw [hy];exact hz,by rw [hv];exact hs⟩
   · rw [if_neg h2] at hz hs;exact ⟨k,hz,hs⟩
def iY (n:Nat) (H:List (List ac × Nat)):Prop:=∀(j:Nat) h,j<n→H[j]?=some h→h.1≠[]
theorem iY.of {H:List (List ac × Nat)} (h:∀s ∈ H,s.1≠[]):iY n H:=fun _ s _ hs=>h s (GP hs)
theorem iY.swap {H:List (List ac × Nat)} {u v:List ac × Nat} (h:iY n H) (b:H[i]?=some u) (hv:H[j]?=some v) (hi:i<n) (d:j<n):iY n (Mg.sw H i j u v):=fun k s hk hs=>by
 rw [Mg.sw_get b hv] at hs
 by_cases h1:k=j
 · rw [if_pos h1] at hs;cases hs;exact h i _ hi b
 · rw [if_neg h1] at hs
   by_cases h2:k=i
   · rw [if_pos h2] at hs;cases hs;exact h j _ d hv
   · rw [if_neg h2] at hs;exact h k s hk hs
theorem dF.less {X:List df} {H:List (List ac × Nat)} {u v:List ac × Nat} (h:dF w base BH g n c X H) (D:H[i]?=some u) (hv:H[j]?=some v) (A:u.1≠[]) (o:v.1≠[]) :
 Calls Tryz.prog 307 #[sL g n c,iT i,iT j] w fun e w'=>e=.returned (.bool (Mg.lessS aU u v))∧Bl w w':=by
 have hi:=(F'.1 D).1;have U:=(F'.1 hv).1;have hl:=h.len;have R:=h.own.len;obtain ⟨⟨b1,Q,n1,c1,k1⟩,hx⟩:∃x,X[i]?=some x:=⟨_,j' (by omega)⟩;obtain ⟨⟨b2,O,n2,L,E⟩,hy⟩:∃y,X[j]?=some y:=⟨_,j' (by omega)⟩;obtain ⟨T,rfl,r2,r3,_⟩:=h.rest i _ u hx D;obtain ⟨W,rfl,b,K,_⟩:=h.rest j _ v hy hv;obtain ⟨⟨s,q,d,t,m⟩,l,rfl⟩:=I4 A;obtain ⟨⟨I,F,C,B,J⟩,N,rfl⟩:=I4 o;simp only at r2 r3 b K;obtain ⟨x0,x1⟩:=h.own.at2 hx;obtain ⟨y0,y1⟩:=h.own.at2 hy;have f:0<n1:=by have:=r2.length;simp at this;omega
 have r:0<n2:=by have:=b.length;simp at this;omega
 obtain ⟨e0,e1,e2,e3,e4⟩:=r2.cells _ rfl 0 (by simp);obtain ⟨f0,f1,f2,f3,f4⟩:=b.cells _ rfl 0 (by simp);simp only [I3,Ik,List.getElem_cons_zero] at e0 e1 e2 e3 e4 f0 f1 f2 f3 f4;have hw:=Bb g n c i j b1 Q n1 c1 b2 O n2 L k1 E s t I B q d m F C J w (by omega) (by omega) f r x0 x1 y0 y1 e0 e1 e2 e3 e4 f0 f1 f2 f3 f4;have hd:=Bc (s,q,d,t,m) (I,F,C,B,J) l N k1 E;simp only at hd;rw [hd] at hw;exact hw
theorem ry:∀(X:List df) (k:Nat),fC (X.take k)=(fC X).take (k*2)
 | [],k=>by simp [fC]
 | x :: X,0=>by simp [fC]
 | x :: X,k+1=>by
  rw [List.take_succ_cons,iC,iC,ry X k,show (k+1)*2=k*2+1+1 by omega,List.take_succ_cons,List.take_succ_cons]
theorem ib.take {X:List df} (h:ib w base g n c X) (hk:k≤n):ib w base g k c (X.take k):=by
 have hl:=h.len;obtain ⟨h1,h2⟩:=h.owns;rcases h2 with ⟨hv,_⟩ | ⟨o,m,b,hv,hb,hg,e,d,hs,f⟩
 · cases hv
 · cases hv;refine ⟨⟨by rw [Bm,GS,Nat.min_eq_left (by omega)],.inr ⟨g,c,b,rfl,hb,hg,by omega,d,hs,?_⟩⟩,by rw [GS];omega⟩;rw [ry,← f,List.take_take,Nat.min_eq_left (by omega)]
theorem dF.pop {X:List df} {H:List (List ac × Nat)} {o:Obj} (h:dF w base BH g n c X H) (hk:n=k+1):dF ((w.setCell ⟨BH,0,none⟩ (sL g k c)).alloc o) base BH g k c (X.take k) (H.take k):=by
 obtain ⟨d,b⟩:=aG (w.setCell ⟨BH,0,none⟩ (sL g k c));have hg:w.grownBy d (some BH):=by rw [b];exact fO w BH 0 _
 have m:d.cell? ⟨BH,0,none⟩=some (sL g k c):=by rw [b];exact G3 _ _ _ (by rw [h.box];rfl)
 rw [← b];have h1:dF d base BH g k c (X.take k) (H.take k):=by
  refine ⟨m,(h.own.take (by omega)).grown hg (fun e=>h.ne (GN e).symm),by rw [GS,h.len];omega,fun j x s hx hs=>?_,h.ne⟩;have f:=(F'.1 hx).1;rw [GS] at f;rw [Hv (by omega)] at hx hs;obtain ⟨l,r,r2,r3,r4,r5⟩:=h.rest j x s hx hs;refine ⟨l,r,r2.grownB hg (fun y t _=>?_),E' r3 hg.size,r4,r5⟩;cases t;exact fun e=>r5 (GN e)
 exact h1.below bZ
theorem DI (base BH g n c k:Nat) (X:List df) (H:List (List ac × Nat)) (w:World) (hk:n=k+1) (hn:n≤1048576) (hB:base≤BH) (b:w.frozen? ⟨BH,0,none⟩=false) (hS:dF w base BH g n c X H) :
 Calls Tryz.prog 309 #[.pointer (pT BH)] w fun e w'=>(∃v,e=.returned v)∧dF w' base BH g k c (X.take k) (H.take k)∧Below base w w'∧KeepsOthers w w'∧w'.frozen? ⟨BH,0,none⟩=false∧w.grownBy w' (some BH):=by
 have s:=hS.own.len;obtain ⟨⟨I,K,B,F,J⟩,hx⟩:∃x,X[k]?=some x:=⟨_,j' (by omega)⟩;obtain ⟨x0,x1⟩:=hS.own.at2 hx;simp only at x0 x1;have hb:=hS.box;have C:=hS.own.lt.2;have t:=GK _ _ hb;simp only at t;have m:=az hS;have d:=az b;have D:IntKind.i64.wrap ((n:Int) - 1)=(k:Int):=by rw [Hg];omega
 have A:(k:Int)<(n:Int):=by omega
 have hc:n≤c:=by
  rcases hS.own.owns.2 with ⟨hv,_⟩ | ⟨E,u,y,hv,_,_,f,_⟩
  · cases hv
  · cases hv;exact f
 have r:(k:Int)≤(c:Int):=by omega
 go_enter Tryz.func309,Tryz.ntmps309
 go_wp2;go_ret;refine ⟨⟨_,rfl⟩,?_,?_,(KeepsOthers.setCell _ _ _).trans (KeepsOthers.alloc _ _),?_,(fO _ _ _ _).trans (World.grownBy_alloc _ _ _)⟩
 · exact m.o.pop hk
 · exact ((Below.refl base w).setCell (p:=⟨BH,0,none⟩) hB _).alloc (by have:=m.o.own.lt;simp [World.setCell];omega) _
 · rw [World.frozen?_alloc_old _ _ _ (by show BH≠_;simp [World.setCell];omega),G8];exact d.o
end Go.Proofs.YtpobkmjicbobdaaGreat
