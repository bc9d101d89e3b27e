/-
  Plain: what a posting brings to its accounts, one after the other, is what it brings.
-/
import Derived.Test.YtphoghhlkoglpaaFairP
namespace Go.Proofs.Ytphoghhlkoglpaa

def keyD (l : LegD) : List UInt8 := l.1.data.toList
def addD (ks : List (List UInt8)) (l : LegD) : List (List UInt8) := if keyD l ∈ ks then ks else ks ++ [keyD l]
def keysD (L : List LegD) : List (List UInt8) := L.foldl addD []
theorem keysD_snoc (L : List LegD) (l : LegD) : keysD (L ++ [l]) = addD (keysD L) l := by simp [keysD]

theorem legs_ind {P : List LegD → Prop} (h0 : P []) (hs : ∀ ys y, P ys → P (ys ++ [y])) : ∀ ys, P ys := by
  intro ys
  have : ∀ r : List LegD, P r.reverse := by
    intro r
    induction r with
    | nil => exact h0
    | cons y r ih => rw [List.reverse_cons]; exact hs _ _ ih
  simpa using this ys.reverse

theorem mem_keysD (L : List LegD) (k : List UInt8) : k ∈ keysD L ↔ ∃ l ∈ L, keyD l = k := by
  induction L using legs_ind with
  | h0 => simp [keysD]
  | hs L l ih =>
    rw [keysD_snoc]; unfold addD
    split
    · rename_i h
      constructor
      · intro hk
        obtain ⟨l', h1, h2⟩ := ih.1 hk
        exact ⟨l', List.mem_append_left _ h1, h2⟩
      · rintro ⟨l', h1, h2⟩
        rcases List.mem_append.1 h1 with h3 | h3
        · exact ih.2 ⟨l', h3, h2⟩
        · simp at h3
          subst h3
          rw [← h2]
          exact h
    · simp only [List.mem_append, List.mem_singleton, ih]
      constructor
      · rintro (⟨l', h1, h2⟩ | h1)
        · exact ⟨l', Or.inl h1, h2⟩
        · exact ⟨l, Or.inr rfl, h1.symm⟩
      · rintro ⟨l', h1 | h1, h2⟩
        · exact Or.inl ⟨l', h1, h2⟩
        · subst h1; exact Or.inr h2.symm

theorem nodup_keysD (L : List LegD) : (keysD L).Nodup := by
  induction L using legs_ind with
  | h0 => simp [keysD]
  | hs L l ih =>
    rw [keysD_snoc]; unfold addD
    split
    · exact ih
    · rename_i h
      rw [List.nodup_append]
      refine ⟨ih, by simp, ?_⟩
      intro a ha b hb
      simp at hb
      rintro rfl
      exact h (hb ▸ ha)

theorem keysD_len (L : List LegD) : (keysD L).length ≤ L.length := by
  induction L using legs_ind with
  | h0 => simp [keysD]
  | hs L l ih =>
    rw [keysD_snoc, List.length_append]; unfold addD
    split <;> simp <;> omega

/-- What the legs ys bring to the accounts of the legs L, one after the other. -/
def sumD (ys : List LegY) (L : List LegD) : Int := ((keysD L).map (atY ys)).sum

theorem sumD_yes {ys : List LegY} {L : List LegD} {k : Nat} {l : LegD} (hk : L[k]? = some l) (hn : ∀ l' ∈ L.take k, ¬ keyD l' = keyD l) : sumD ys (L.take (k + 1)) = sumD ys (L.take k) + atY ys (keyD l) := by
  unfold sumD
  rw [List.take_add_one, hk]
  simp only [Option.toList]
  rw [keysD_snoc]; unfold addD
  rw [if_neg (by rw [mem_keysD]; rintro ⟨l', h1, h2⟩; exact hn l' h1 h2)]
  simp
theorem sumD_no {ys : List LegY} {L : List LegD} {k : Nat} {l : LegD} (hk : L[k]? = some l) (hn : ∃ l' ∈ L.take k, keyD l' = keyD l) : sumD ys (L.take (k + 1)) = sumD ys (L.take k) := by
  unfold sumD
  rw [List.take_add_one, hk]
  simp only [Option.toList]
  rw [keysD_snoc]; unfold addD
  rw [if_pos (by rw [mem_keysD]; exact hn)]

theorem sum_over (ks : List (List UInt8)) (hn : ks.Nodup) (ys : List LegY) : (∀ k ∈ keysY ys, k ∈ ks) → (ks.map (atY ys)).sum = totY ys := by
  induction ys using ys_ind with
  | h0 =>
    intro _
    have : ks.map (atY []) = ks.map (fun _ => (0 : Int)) := List.map_congr_left (fun k _ => rfl)
    rw [this]
    clear this hn
    induction ks with
    | nil => rfl
    | cons a r ih =>
      have e := ih (fun k hk => by simp [keysY] at hk)
      simp only [List.map_cons, List.sum_cons, e]
      rfl
  | hs ys y ih =>
    intro h
    have h1 := ih (fun k hk => h k ((mem_keysY_snoc _ _ _).2 (Or.inl hk)))
    rw [totY_snoc, ← h1]
    exact sum_congr_add hn (h _ ((mem_keysY_snoc _ _ _).2 (Or.inr rfl))) (fun k => atY_snoc ys y k)

theorem mem_keysY (ys : List LegY) (k : List UInt8) : k ∈ keysY ys → ∃ y ∈ ys, keyY y = k := by
  induction ys using ys_ind with
  | h0 => intro h; simp [keysY] at h
  | hs ys y ih =>
    intro h
    rcases (mem_keysY_snoc _ _ _).1 h with h1 | h1
    · obtain ⟨y', h2, h3⟩ := ih h1
      exact ⟨y', List.mem_append_left _ h2, h3⟩
    · exact ⟨y, by simp, h1.symm⟩
theorem mem_selY (cur : Int) (L : List LegD) (y : LegY) : y ∈ selY cur L → y.1 ∈ L := by
  induction L with
  | nil => intro h; simp [selY] at h
  | cons l r ih =>
    simp only [selY]
    split
    · intro h
      rcases List.mem_cons.1 h with h1 | h1
      · subst h1; simp
      · exact List.mem_cons_of_mem _ (ih h1)
    · intro h; exact List.mem_cons_of_mem _ (ih h)
theorem keys_in {id cur : Int} {L : List LegD} {k : List UInt8} (h : k ∈ keysY (yieldsOf id L cur)) : ∃ l ∈ L, keyD l = k := by
  obtain ⟨y, h1, h2⟩ := mem_keysY _ _ h
  unfold yieldsOf at h1
  split at h1
  · exact ⟨y.1, mem_selY _ _ _ h1, h2⟩
  · cases h1
theorem sumD_all (id cur : Int) (L : List LegD) : sumD (yieldsOf id L cur) L = totY (yieldsOf id L cur) :=
  sum_over _ (nodup_keysD L) _ (fun k hk => (mem_keysD L k).2 (keys_in hk))
theorem sumD_bd (ys : List LegY) (hy : ys.length ≤ 4) (L : List LegD) (h4 : L.length ≤ 4) : -16000 ≤ sumD ys L ∧ sumD ys L ≤ 16000 := by
  have h1 := sum_bd ys hy (keysD L)
  have h2 := keysD_len L
  unfold sumD
  omega
theorem none_brings (id cur : Int) (L : List LegD) (s : ByteArray) (h : ∀ l ∈ L, ¬ keyD l = s.data.toList) : atY (yieldsOf id L cur) s.data.toList = 0 :=
  atY_notin _ _ (fun hk => by obtain ⟨l, h1, h2⟩ := keys_in hk; exact h l h1 h2)
end Go.Proofs.Ytphoghhlkoglpaa
