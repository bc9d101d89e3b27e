/-
  Rows in order made one, and the steps of the library's stable sort, on plain rows. No statement of the program stands here.
-/
import Derived.Test.YtlmgojlffgkciaaGreatCe29
namespace Go.Proofs.YtlmgojlffgkciaaGreat
open Go.RowKit
/-! Two rows in order made one, the first ahead where times are alike. -/
def mrg : List EntD → List EntD → List EntD
  | [], B => B
  | a :: A, [] => a :: A
  | a :: A, b :: B => if b.2.1 < a.2.1 then b :: mrg (a :: A) B else a :: mrg A (b :: B)
termination_by A B => A.length + B.length
theorem mrg_nil (B : List EntD) : mrg [] B = B := by rw [mrg]
theorem mrg_nil' : ∀ A : List EntD, mrg A [] = A
  | [] => by rw [mrg]
  | a :: A => by rw [mrg]
theorem mrg_lt {a b : EntD} {A B : List EntD} (h : b.2.1 < a.2.1) : mrg (a :: A) (b :: B) = b :: mrg (a :: A) B := by rw [mrg, if_pos h]
theorem mrg_ge {a b : EntD} {A B : List EntD} (h : ¬ b.2.1 < a.2.1) : mrg (a :: A) (b :: B) = a :: mrg A (b :: B) := by rw [mrg, if_neg h]
theorem mrg_len : ∀ (A B : List EntD), (mrg A B).length = A.length + B.length
  | [], B => by rw [mrg_nil]; simp
  | a :: A, [] => by rw [mrg_nil']; simp
  | a :: A, b :: B => by
    by_cases h : b.2.1 < a.2.1
    · rw [mrg_lt h, List.length_cons, mrg_len (a :: A) B]; simp; omega
    · rw [mrg_ge h, List.length_cons, mrg_len A (b :: B)]; simp; omega
termination_by A B => A.length + B.length
theorem mrg_perm : ∀ (A B : List EntD), (mrg A B).Perm (A ++ B)
  | [], B => by rw [mrg_nil]; simp
  | a :: A, [] => by rw [mrg_nil']; simp
  | a :: A, b :: B => by
    by_cases h : b.2.1 < a.2.1
    · rw [mrg_lt h]; exact ((mrg_perm (a :: A) B).cons b).trans List.perm_middle.symm
    · rw [mrg_ge h]; exact (mrg_perm A (b :: B)).cons a
termination_by A B => A.length + B.length
theorem mrg_split : ∀ (A1 A2 B1 B2 : List EntD), (∀ a ∈ A1, ∀ b ∈ B2, ¬ b.2.1 < a.2.1) → (∀ b ∈ B1, ∀ a ∈ A2, b.2.1 < a.2.1) → mrg (A1 ++ A2) (B1 ++ B2) = mrg A1 B1 ++ mrg A2 B2
  | [], A2, [], B2, _, _ => by simp [mrg_nil]
  | [], [], b :: B1, B2, _, _ => by simp [mrg_nil]
  | [], a :: A2, b :: B1, B2, h1, h2 => by
    have hb := h2 b List.mem_cons_self a List.mem_cons_self
    have ih := mrg_split [] (a :: A2) B1 B2 h1 (fun x hx => h2 x (List.mem_cons_of_mem _ hx))
    simp only [List.nil_append, mrg_nil, List.cons_append] at ih ⊢
    rw [mrg_lt hb, ih]
  | a :: A1, A2, [], [], _, _ => by simp [mrg_nil']
  | a :: A1, A2, [], b :: B2, h1, h2 => by
    have hb := h1 a List.mem_cons_self b List.mem_cons_self
    have ih := mrg_split A1 A2 [] (b :: B2) (fun x hx => h1 x (List.mem_cons_of_mem _ hx)) h2
    simp only [List.nil_append, mrg_nil', List.cons_append] at ih ⊢
    rw [mrg_ge hb, ih]
  | a :: A1, A2, b :: B1, B2, h1, h2 => by
    by_cases h : b.2.1 < a.2.1
    · have ih := mrg_split (a :: A1) A2 B1 B2 h1 (fun x hx => h2 x (List.mem_cons_of_mem _ hx))
      simp only [List.cons_append] at ih ⊢
      rw [mrg_lt h, mrg_lt h, ih]
      rfl
    · have ih := mrg_split A1 A2 (b :: B1) B2 (fun x hx => h1 x (List.mem_cons_of_mem _ hx)) h2
      simp only [List.cons_append] at ih ⊢
      rw [mrg_ge h, mrg_ge h, ih]
      rfl
termination_by A1 _ B1 _ => A1.length + B1.length
theorem mrg_one_left (x : EntD) (B1 B2 : List EntD) (h1 : ∀ b ∈ B1, b.2.1 < x.2.1) (h2 : ∀ b ∈ B2, ¬ b.2.1 < x.2.1) : mrg [x] (B1 ++ B2) = B1 ++ x :: B2 := by
  have h := mrg_split [] [x] B1 B2 (by simp) (fun b hb a ha => by simp only [List.mem_singleton] at ha; subst ha; exact h1 b hb)
  simp only [List.nil_append, mrg_nil] at h
  rw [h]
  cases B2 with
  | nil => rw [mrg_nil']
  | cons b B2 => rw [mrg_ge (h2 b List.mem_cons_self), mrg_nil]
theorem mrg_one_right (y : EntD) (A1 A2 : List EntD) (h1 : ∀ a ∈ A1, ¬ y.2.1 < a.2.1) (h2 : ∀ a ∈ A2, y.2.1 < a.2.1) : mrg (A1 ++ A2) [y] = A1 ++ y :: A2 := by
  have h := mrg_split A1 A2 [] [y] (fun a ha b hb => by simp only [List.mem_singleton] at hb; subst hb; exact h1 a ha) (by simp)
  simp only [List.nil_append, mrg_nil'] at h
  rw [h]
  cases A2 with
  | nil => rw [mrg_nil]
  | cons a A2 => rw [mrg_lt (h2 a List.mem_cons_self), mrg_nil']
def Asc (A : List EntD) : Prop := A.Pairwise (fun a b => a.2.1 ≤ b.2.1)
theorem putC_cons_lt {x e : EntD} {M : List EntD} (h : Asc (x :: M)) (he : e.2.1 < x.2.1) : putC (x :: M) e = e :: x :: M := by
  have h1 := List.pairwise_cons.1 h
  have hall : ∀ y ∈ x :: M, e.2.1 < y.2.1 := fun y hy => by
    rcases List.mem_cons.1 hy with rfl | hy
    · exact he
    · have := h1.1 y hy; omega
  have := putC_low (A := []) (B := x :: M) hall
  simp only [List.nil_append] at this
  rw [this]
  simp [putC, plC]
theorem plC_cons {x : EntD} {M : List EntD} {q : Int} (hx : ¬ q < x.2.1) : ∀ k, k ≤ M.length → plC (x :: M) q (k + 1) = plC M q k + 1
  | 0, _ => by simp [plC, hx]
  | k + 1, hk => by
    have hm := List.getElem?_eq_getElem (show k < M.length from hk)
    have h1 : (x :: M)[k + 1]? = some M[k] := by simp
    have e1 : plC (x :: M) q (k + 1 + 1) = if q < M[k].2.1 then plC (x :: M) q (k + 1) else k + 1 + 1 := by rw [plC, h1]
    have e2 : plC M q (k + 1) = if q < M[k].2.1 then plC M q k else k + 1 := by rw [plC, hm]
    rw [e1, e2]
    by_cases hc : q < M[k].2.1
    · rw [if_pos hc, if_pos hc]; exact plC_cons hx k (by omega)
    · rw [if_neg hc, if_neg hc]
theorem putC_cons_ge {x e : EntD} {M : List EntD} (he : ¬ e.2.1 < x.2.1) : putC (x :: M) e = x :: putC M e := by
  unfold putC
  rw [List.length_cons, plC_cons he M.length (Nat.le_refl _)]
  simp
theorem mrg_asc : ∀ {A B : List EntD}, Asc A → Asc B → Asc (mrg A B)
  | [], B, _, hB => by rw [mrg_nil]; exact hB
  | a :: A, [], hA, _ => by rw [mrg_nil']; exact hA
  | a :: A, b :: B, hA, hB => by
    have a1 := List.pairwise_cons.1 hA
    have b1 := List.pairwise_cons.1 hB
    by_cases h : b.2.1 < a.2.1
    · rw [mrg_lt h]
      refine List.pairwise_cons.2 ⟨fun y hy => ?_, mrg_asc hA b1.2⟩
      rcases List.mem_append.1 ((mrg_perm _ _).mem_iff.1 hy) with hy | hy
      · rcases List.mem_cons.1 hy with rfl | hy
        · omega
        · have := a1.1 y hy; omega
      · exact b1.1 y hy
    · rw [mrg_ge h]
      refine List.pairwise_cons.2 ⟨fun y hy => ?_, mrg_asc a1.2 hB⟩
      rcases List.mem_append.1 ((mrg_perm _ _).mem_iff.1 hy) with hy | hy
      · exact a1.1 y hy
      · rcases List.mem_cons.1 hy with rfl | hy
        · omega
        · have := b1.1 y hy; omega
termination_by A B => A.length + B.length
theorem putC_mrg (e : EntD) : ∀ {A B : List EntD}, Asc A → Asc B → putC (mrg A B) e = mrg A (putC B e)
  | [], B, _, _ => by rw [mrg_nil, mrg_nil]
  | a :: A, [], hA, _ => by
    have a1 := List.pairwise_cons.1 hA
    rw [mrg_nil']
    have : putC [] e = [e] := by simp [putC, plC]
    rw [this]
    by_cases h : e.2.1 < a.2.1
    · rw [putC_cons_lt hA h, mrg_lt h, mrg_nil']
    · rw [putC_cons_ge h, mrg_ge h]
      have ih := putC_mrg e a1.2 (B := []) List.Pairwise.nil
      rw [mrg_nil', this] at ih
      rw [ih]
  | a :: A, b :: B, hA, hB => by
    have a1 := List.pairwise_cons.1 hA
    have b1 := List.pairwise_cons.1 hB
    by_cases hab : b.2.1 < a.2.1
    · by_cases heb : e.2.1 < b.2.1
      · have hs := mrg_asc hA hB
        rw [mrg_lt hab] at hs ⊢
        rw [putC_cons_lt hs heb, putC_cons_lt hB heb, mrg_lt (show e.2.1 < a.2.1 by omega), mrg_lt hab]
      · rw [mrg_lt hab, putC_cons_ge heb, putC_cons_ge heb, mrg_lt hab, putC_mrg e hA b1.2]
    · by_cases heb : e.2.1 < b.2.1
      · rw [putC_cons_lt hB heb]
        by_cases hea : e.2.1 < a.2.1
        · have hs := mrg_asc hA hB
          rw [mrg_ge hab] at hs ⊢
          rw [putC_cons_lt hs hea, mrg_lt hea, mrg_ge hab]
        · rw [mrg_ge hab, putC_cons_ge hea, mrg_ge hea, putC_mrg e a1.2 hB, putC_cons_lt hB heb]
      · rw [mrg_ge hab, putC_cons_ge (show ¬ e.2.1 < a.2.1 by omega), putC_cons_ge heb, mrg_ge hab, putC_mrg e a1.2 hB, putC_cons_ge heb]
termination_by A B => A.length + B.length
theorem cutC_app (A : List EntD) : ∀ B : List EntD, cutC (A ++ B) = mrg (cutC A) (cutC B) := by
  have key : ∀ n (B : List EntD), B.length = n → cutC (A ++ B) = mrg (cutC A) (cutC B) := by
    intro n
    induction n with
    | zero => intro B h; rw [List.length_eq_zero_iff] at h; subst h; simp [cutC, mrg_nil']
    | succ n ih =>
      intro B h
      obtain ⟨B', x, rfl⟩ : ∃ B' x, B = B' ++ [x] := ⟨B.dropLast, B.getLast (by intro h0; simp [h0] at h), (List.dropLast_concat_getLast _).symm⟩
      simp at h
      rw [← List.append_assoc, cutC_snoc, cutC_snoc, ih B' h, putC_mrg x (cutC_sorted A) (cutC_sorted B')]
  exact fun B => key _ B rfl
/-! Rows of so many, each in order. -/
def chs (bs : Nat) : Nat → List EntD → List EntD
  | 0, L => cutC L
  | f + 1, L => if L.length ≤ bs then cutC L else cutC (L.take bs) ++ chs bs f (L.drop bs)
theorem chs_more {bs : Nat} (hb : 1 ≤ bs) : ∀ (f f' : Nat) (L : List EntD), L.length ≤ f → L.length ≤ f' → chs bs f L = chs bs f' L
  | 0, 0, L, _, _ => rfl
  | 0, f' + 1, L, h, _ => by
    have : L.length ≤ bs := by omega
    simp [chs, this]
  | f + 1, 0, L, _, h => by
    have : L.length ≤ bs := by omega
    simp [chs, this]
  | f + 1, f' + 1, L, h, h' => by
    simp only [chs]
    by_cases hl : L.length ≤ bs
    · rw [if_pos hl, if_pos hl]
    · rw [if_neg hl, if_neg hl, chs_more hb f f' (L.drop bs) (by simp; omega) (by simp; omega)]
def chS (bs : Nat) (L : List EntD) : List EntD := chs bs L.length L
theorem chS_few {bs : Nat} {L : List EntD} (h : L.length ≤ bs) : chS bs L = cutC L := by
  unfold chS
  match hl : L.length with
  | 0 => rfl
  | n + 1 => rw [chs, if_pos (by omega)]
theorem chS_go {bs : Nat} (hb : 1 ≤ bs) (L : List EntD) : chS bs L = cutC (L.take bs) ++ chS bs (L.drop bs) := by
  by_cases he : L.length ≤ bs
  · rw [chS_few he, List.take_of_length_le he, List.drop_of_length_le he, chS_few (by simp)]
    simp [cutC]
  · unfold chS
    obtain ⟨n, hn⟩ : ∃ n, L.length = n + 1 := ⟨L.length - 1, by omega⟩
    rw [hn, chs, if_neg he, chs_more hb n (L.drop bs).length (L.drop bs) (by simp; omega) (Nat.le_refl _)]
theorem cut_two (bs : Nat) (R : List EntD) : mrg (cutC (R.take bs)) (cutC (R.drop bs)) = cutC R := by
  rw [← cutC_app, List.take_append_drop]
/-! The steps of the library's stable sort, on plain rows. -/
theorem swp_list (X1 X2 X3 : List EntD) (p q : EntD) : Sort.swp (X1 ++ p :: (X2 ++ q :: X3)).toArray X1.length (X1.length + 1 + X2.length) = (X1 ++ q :: (X2 ++ p :: X3)).toArray := by
  unfold Sort.swp
  apply Array.ext'
  have e1 : (X1 ++ p :: (X2 ++ q :: X3))[X1.length + 1 + X2.length]? = some q := by
    rw [List.getElem?_append_right (by omega), show X1.length + 1 + X2.length - X1.length = X2.length + 1 by omega]
    simp
  have g1 : ((X1 ++ p :: (X2 ++ q :: X3)).toArray)[X1.length + 1 + X2.length]! = q := by simp [e1]
  have g0 : ((X1 ++ p :: (X2 ++ q :: X3)).toArray)[X1.length]! = p := by simp
  rw [g1, g0]
  simp only [List.setIfInBounds_toArray]
  rw [List.set_append_right _ _ (Nat.le_refl _), Nat.sub_self, List.set_cons_zero, List.set_append_right _ _ (by omega), show X1.length + 1 + X2.length - X1.length = X2.length + 1 by omega, List.set_cons_succ, List.set_append_right _ _ (Nat.le_refl _), Nat.sub_self, List.set_cons_zero]
theorem swp_pre (Z D : List EntD) (i j : Nat) (hi : i < D.length) (hj : j < D.length) : Sort.swp (Z ++ D).toArray (Z.length + i) (Z.length + j) = (Z ++ (Sort.swp D.toArray i j).toList).toArray := by
  unfold Sort.swp
  apply Array.ext'
  have e1 : (Z ++ D)[Z.length + j]? = some D[j] := by rw [List.getElem?_append_right (by omega), Nat.add_sub_cancel_left, List.getElem?_eq_getElem hj]
  have e0 : (Z ++ D)[Z.length + i]? = some D[i] := by rw [List.getElem?_append_right (by omega), Nat.add_sub_cancel_left, List.getElem?_eq_getElem hi]
  have g1 : ((Z ++ D).toArray)[Z.length + j]! = D[j] := by simp [e1]
  have g0 : ((Z ++ D).toArray)[Z.length + i]! = D[i] := by simp [e0]
  have h1 : (D.toArray)[j]! = D[j] := by simp [hj]
  have h0 : (D.toArray)[i]! = D[i] := by simp [hi]
  rw [g1, g0, h1, h0]
  simp only [List.setIfInBounds_toArray]
  rw [List.set_append_right _ _ (by omega), Nat.add_sub_cancel_left, List.set_append_right _ _ (by omega), Nat.add_sub_cancel_left]
theorem swp_size (D : List EntD) (i j : Nat) : (Sort.swp D.toArray i j).toList.length = D.length := by unfold Sort.swp; simp
theorem inner_pre (Z : List EntD) : ∀ (j : Nat) (D : List EntD), j < D.length → Sort.insInner ltT Z.length (Z.length + j) (Z ++ D).toArray = (Z ++ (Sort.insInner ltT 0 j D.toArray).toList).toArray
  | 0, D, _ => by
    simp only [Nat.add_zero, Sort.insInner]
    cases hz : Z.length with
    | zero => simp [Sort.insInner]
    | succ k => simp [Sort.insInner]
  | j + 1, D, hj => by
    show Sort.insInner ltT Z.length (Z.length + j + 1) (Z ++ D).toArray = _
    have e1 : (Z ++ D)[Z.length + j + 1]? = some D[j + 1] := by rw [List.getElem?_append_right (by omega), show Z.length + j + 1 - Z.length = j + 1 by omega, List.getElem?_eq_getElem hj]
    have e0 : (Z ++ D)[Z.length + j]? = some D[j] := by rw [List.getElem?_append_right (by omega), Nat.add_sub_cancel_left, List.getElem?_eq_getElem]
    have g1 : ((Z ++ D).toArray)[Z.length + j + 1]! = D[j + 1] := by simp [e1]
    have g0 : ((Z ++ D).toArray)[Z.length + j]! = D[j] := by simp [e0]
    have h1 : (D.toArray)[j + 1]! = D[j + 1] := by simp [hj]
    have h0 : (D.toArray)[j]! = D[j] := by simp [show j < D.length by omega]
    rw [Sort.insInner, Sort.insInner, g1, g0, h1, h0]
    by_cases hc : ltT D[j + 1] D[j] = true
    · have hs : Sort.swp (Z ++ D).toArray (Z.length + j + 1) (Z.length + j) = (Z ++ (Sort.swp D.toArray (j + 1) j).toList).toArray := swp_pre Z D (j + 1) j hj (by omega)
      have ih := inner_pre Z j (Sort.swp D.toArray (j + 1) j).toList (by rw [swp_size]; omega)
      rw [if_pos (by simp [hc]; omega), if_pos (by simp [hc]), hs, ih]
    · rw [if_neg (by simp [hc]), if_neg (by simp [hc])]
theorem inner_size (lt : EntD → EntD → Bool) (a : Nat) : ∀ (j : Nat) (D : List EntD), (Sort.insInner lt a j D.toArray).toList.length = D.length
  | 0, D => by simp [Sort.insInner]
  | j + 1, D => by
    rw [Sort.insInner]
    split
    · have := inner_size lt a j (Sort.swp D.toArray (j + 1) j).toList
      rw [swp_size] at this
      simpa using this
    · rfl
theorem outer_pre (Z : List EntD) (b : Nat) : ∀ (m i : Nat) (D : List EntD), b - i = m → b ≤ D.length → Sort.insOuter ltT Z.length (Z.length + b) (Z.length + i) (Z ++ D).toArray = (Z ++ (Sort.insOuter ltT 0 b i D.toArray).toList).toArray := by
  intro m
  induction m with
  | zero =>
    intro i D hm hb
    rw [Sort.insOuter, if_neg (by omega), Sort.insOuter, if_neg (by omega)]
  | succ m ih =>
    intro i D hm hb
    rw [Sort.insOuter, if_pos (by omega), inner_pre Z i D (by omega)]
    conv => rhs; rw [Sort.insOuter, if_pos (show i < b by omega)]
    have := ih (i + 1) (Sort.insInner ltT 0 i D.toArray).toList (by omega) (by rw [inner_size]; exact hb)
    rw [show Z.length + i + 1 = Z.length + (i + 1) by omega, this]
theorem outer_post (L Y : List EntD) : ∀ m i, L.length - i = m → i ≤ L.length → Sort.insOuter ltT 0 L.length i (cutC (L.take i) ++ (L.drop i ++ Y)).toArray = (cutC L ++ Y).toArray := by
  intro m
  induction m with
  | zero =>
    intro i hm hi
    have : i = L.length := by omega
    subst this
    rw [Sort.insOuter, if_neg (by omega)]
    simp
  | succ m ih =>
    intro i hm hi
    have hil : i < L.length := by omega
    rw [Sort.insOuter, if_pos hil, List.drop_eq_getElem_cons hil]
    have hl : (cutC (L.take i)).length = i := by rw [cutC_len]; simp; omega
    have := ins_one (cutC (L.take i)) (L.drop (i + 1) ++ Y) L[i]
    rw [hl] at this
    simp only [List.cons_append]
    rw [this, ← cutC_take (List.getElem?_eq_getElem hil)]
    exact ih (i + 1) (by omega) (by omega)
theorem ins_part (Z X Y : List EntD) : Sort.insertionSort ltT (Z ++ (X ++ Y)).toArray Z.length (Z.length + X.length) = (Z ++ (cutC X ++ Y)).toArray := by
  unfold Sort.insertionSort
  rw [outer_pre Z X.length (X.length - 1) 1 (X ++ Y) rfl (by simp)]
  by_cases h : X.length = 0
  · rw [List.length_eq_zero_iff] at h
    subst h
    rw [Sort.insOuter, if_neg (by simp)]
    simp [cutC]
  · have h1 : cutC (X.take 1) ++ (X.drop 1 ++ Y) = X ++ Y := by
      match X, h with
      | [], h => simp at h
      | x :: r, _ => simp [cutC, putC, plC]
    have := outer_post X Y (X.length - 1) 1 rfl (by omega)
    rw [h1] at this
    rw [this]
def halfX (Z P M Q Y : List EntD) (i : Nat) : List EntD := (Z ++ Q.take i) ++ (P.drop i ++ (M ++ (P.take i ++ (Q.drop i ++ Y))))
theorem half_go (Z P M Q Y : List EntD) (i n : Nat) (hP : P.length = n) (hQ : Q.length = n) (hi : i < n) : Sort.swp (halfX Z P M Q Y i).toArray (Z.length + i) (Z.length + n + M.length + i) = (halfX Z P M Q Y (i + 1)).toArray := by
  have hp : i < P.length := by omega
  have hq : i < Q.length := by omega
  have e1 : halfX Z P M Q Y i = (Z ++ Q.take i) ++ P[i] :: ((P.drop (i + 1) ++ (M ++ P.take i)) ++ Q[i] :: (Q.drop (i + 1) ++ Y)) := by
    unfold halfX
    rw [List.drop_eq_getElem_cons hp, List.drop_eq_getElem_cons hq]
    simp only [List.append_assoc, List.cons_append]
  have e2 : halfX Z P M Q Y (i + 1) = (Z ++ Q.take i) ++ Q[i] :: ((P.drop (i + 1) ++ (M ++ P.take i)) ++ P[i] :: (Q.drop (i + 1) ++ Y)) := by
    unfold halfX
    rw [List.take_add_one, List.take_add_one, List.getElem?_eq_getElem hp, List.getElem?_eq_getElem hq]
    simp only [Option.toList_some, List.append_assoc, List.cons_append, List.nil_append]
  have := swp_list (Z ++ Q.take i) (P.drop (i + 1) ++ (M ++ P.take i)) (Q.drop (i + 1) ++ Y) P[i] Q[i]
  rw [← e1, ← e2] at this
  have l1 : (Z ++ Q.take i).length = Z.length + i := by simp; omega
  have l2 : (P.drop (i + 1) ++ (M ++ P.take i)).length = n - (i + 1) + M.length + i := by simp; omega
  rw [l1, l2] at this
  rw [← this]
  congr 1
  omega
theorem half_0 (Z P M Q Y : List EntD) : halfX Z P M Q Y 0 = Z ++ (P ++ (M ++ (Q ++ Y))) := by simp [halfX]
theorem half_n (Z P M Q Y : List EntD) (n : Nat) (hP : P.length = n) (hQ : Q.length = n) : halfX Z P M Q Y n = Z ++ (Q ++ (M ++ (P ++ Y))) := by
  unfold halfX
  rw [List.take_of_length_le (by omega), List.drop_of_length_le (by omega), List.take_of_length_le (by omega), List.drop_of_length_le (by omega)]
  simp
end Go.Proofs.YtlmgojlffgkciaaGreat
