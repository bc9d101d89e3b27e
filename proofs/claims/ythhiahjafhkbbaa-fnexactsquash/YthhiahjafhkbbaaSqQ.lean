/-
  What is left of entries, in plain words: cut by keys, each key's entries cut where a time that is kept lies between two. Plain.
-/
import Derived.Test.YthhiahjafhkbbaaSqC
import Derived.Test.YthhiahjafhkbbaaSqP
import Derived.Test.YthhiahjafhkbbaaSqA
import Derived.Test.YthhiahjafhkbbaaRunP
namespace Go.Proofs.Ythhiahjafhkbbaa
/-- What is left of a class. -/
def clS (b : Bool) : List EntD → List EntD
  | [] => []
  | e :: r => classG b e.1 e.2.1 (e :: r)
/-- No time that is kept lies between two neighbours. -/
def cutB (S : List Int) (x y : EntD) : Bool := !apartB S y.2.1 x.2.1
def keyEq (x y : EntD) : Bool := decide (x.1 = y.1)
def leftS (S : List Int) (bottom : Bool) (G : List EntD) : List EntD := Sq.leftD clS bottom (Sq.parts (cutB S) G)
def squashL (L : List EntD) (S : List Int) (bottom : Bool) : List EntD := if rightB L = true then (Sq.parts keyEq L).flatMap (leftS S bottom) else []
theorem clS_head {c : List EntD} {e : EntD} (b : Bool) (h : c[0]? = some e) : clS b c = classG b e.1 e.2.1 c := by
  match c, h with
  | x :: r, h => simp at h; subst h; rfl
theorem clS_len (b : Bool) : ∀ c : List EntD, (clS b c).length ≤ c.length
  | [] => Nat.le_refl _
  | e :: r => by
    show (classG b e.1 e.2.1 (e :: r)).length ≤ (e :: r).length
    unfold classG
    by_cases h1 : sumOkB (joinG true 0 (e :: r)).2.2 = true
    · rw [if_pos h1]
      by_cases h2 : b = true ∧ (joinG true 0 (e :: r)).1 = 2
      · rw [if_pos h2]; simp
      · rw [if_neg h2]; simp
    · rw [if_neg h1]; exact Nat.le_refl _
theorem left_len (bottom : Bool) : ∀ P : List (List EntD), ((P.foldr (Sq.stepD clS) (bottom, [])).2).length ≤ P.flatten.length
  | [] => Nat.le_refl _
  | c :: P => by
    have ih := left_len bottom P
    have h := clS_len (P.foldr (Sq.stepD clS) (bottom, [])).1 c
    rw [List.foldr_cons, List.flatten_cons, List.length_append]
    generalize P.foldr (Sq.stepD clS) (bottom, []) = st at ih h ⊢
    show (clS st.1 c ++ st.2).length ≤ _
    rw [List.length_append]
    omega
theorem leftS_len (S : List Int) (bottom : Bool) (G : List EntD) : (leftS S bottom G).length ≤ G.length := by
  have := left_len bottom (Sq.parts (cutB S) G)
  rw [Sq.parts_flat] at this
  exact this
theorem left_step (bottom : Bool) (P : List (List EntD)) (j : Nat) (c : List EntD) (h : P[j]? = some c) :
    (P.drop j).foldr (Sq.stepD clS) (bottom, []) = Sq.stepD clS c ((P.drop (j + 1)).foldr (Sq.stepD clS) (bottom, [])) := by
  obtain ⟨hj, e⟩ := List.getElem?_eq_some_iff.1 h
  rw [List.drop_eq_getElem_cons hj, e]
  rfl
theorem flat_len (S : List Int) (bottom : Bool) : ∀ P : List (List EntD), (P.flatMap (leftS S bottom)).length ≤ P.flatten.length
  | [] => Nat.le_refl _
  | c :: P => by
    have ih := flat_len S bottom P
    have h := leftS_len S bottom c
    rw [List.flatMap_cons, List.flatten_cons, List.length_append, List.length_append]
    omega
theorem squashL_len (L : List EntD) (S : List Int) (bottom : Bool) : (squashL L S bottom).length ≤ L.length := by
  unfold squashL
  split
  · have := flat_len S bottom (Sq.parts keyEq L)
    rwa [Sq.parts_flat] at this
  · simp
theorem part_len (r : EntD → EntD → Bool) (L : List EntD) (c : List EntD) (h : c ∈ Sq.parts r L) : c.length ≤ L.length ∧ ∀ e ∈ c, e ∈ L := by
  have hf := Sq.parts_flat r L
  refine ⟨?_, fun e he => by rw [← hf]; exact List.mem_flatten.2 ⟨c, h, he⟩⟩
  obtain ⟨A, B, e⟩ := List.append_of_mem h
  rw [← hf, e]
  simp
  omega
theorem part_ne (r : EntD → EntD → Bool) : ∀ (L : List EntD) (c : List EntD), c ∈ Sq.parts r L → c ≠ []
  | [], c, h => by simp [Sq.parts] at h
  | z :: L, c, h => by
    have ih := part_ne r L
    rw [Sq.parts_cons] at h
    unfold Sq.putP at h
    split at h
    · rename_i y c' cs hp
      rw [hp] at ih
      split at h
      · rcases List.mem_cons.1 h with rfl | h
        · simp
        · exact ih c (List.mem_cons_of_mem _ h)
      · rcases List.mem_cons.1 h with rfl | h
        · simp
        · exact ih c h
    · rcases List.mem_cons.1 h with rfl | h
      · simp
      · exact ih c h
theorem right_nums {L : List EntD} (h : rightB L = true) : ∀ e ∈ L, (-1000000 ≤ e.2.2.2.2 ∧ e.2.2.2.2 ≤ 1000000) ∧ (1 ≤ e.2.2.1 ∧ e.2.2.1 ≤ 3 ∧ (e.2.2.1 = 2 → e.2.2.2.1 = ⟨#[]⟩)) ∧ e.1 ≠ ⟨#[]⟩ := by
  intro e he
  obtain ⟨j, hj⟩ := List.getElem?_of_mem he
  have hb := right_ent h hj
  unfold entB at hb
  simp only [Bool.and_eq_true, decide_eq_true_eq] at hb
  obtain ⟨hk, h1, h2, h3, h4, h5, h6⟩ := hb
  refine ⟨⟨h3, h4⟩, ?_, ?_⟩
  · by_cases d1 : e.2.2.1 = 1
    · exact ⟨by omega, by omega, fun h => by omega⟩
    · by_cases d2 : e.2.2.1 = 2
      · rw [d2] at h6
        simp [kindB] at h6
        exact ⟨by omega, by omega, fun _ => h6.1⟩
      · by_cases d3 : e.2.2.1 = 3
        · exact ⟨by omega, by omega, fun h => by omega⟩
        · rw [kindB_0 d1 d2 d3] at h6; cases h6
  · intro e0
    rw [e0] at hk
    simp [keyB, ByteArray.size] at hk
end Go.Proofs.Ythhiahjafhkbbaa
