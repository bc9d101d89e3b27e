/-
  Plain: what the program asks of a tree is what the document asks; no statement of the program stands here.
  The program's lists of a tree: all its lists, what is above ahead of what is beneath; by a walk of its Go text.
-/
import Derived.Test.YtlmgojlffgkciaaGreatFb22
import Derived.Test.YtlmgojlffgkciaaGreatFb23
import Derived.Test.YtlmgojlffgkciaaGreatFb00
import Derived.Test.YtlmgojlffgkciaaGreatFb15
import Derived.Maps.AppendAt
import Derived.Maps.OwnIn
namespace Go.Proofs.YtlmgojlffgkciaaGreat
open Go.RowKit

/-- Of one key the first is newer. -/
def overE (x y : EntD) : Prop := x.1 = y.1 → y.2.1 < x.2.1
theorem over_clash (x y : EntD) : (!clash x y) = true ↔ overE x y := by
  unfold clash overE
  by_cases h : x.1 = y.1
  · simp [h]
  · simp [h]
def Ov (A B : List EntD) : Prop := ∀ x ∈ A, ∀ y ∈ B, overE x y
theorem above_ov {A B : List EntD} : aboveB A B = true ↔ Ov A B := by
  unfold aboveB Ov
  simp only [List.all_eq_true, over_clash]
theorem aged_ov {P : List (List EntD)} : agedB P = true ↔ P.Pairwise Ov := by
  rw [List.pairwise_iff_getElem]
  unfold agedB
  simp only [List.all_eq_true, List.mem_range]
  constructor
  · intro h i j hi hj hij
    have := h i hi j hj
    rw [decide_eq_true hij, above2_at (List.getElem?_eq_getElem hi) (List.getElem?_eq_getElem hj)] at this
    exact above_ov.1 (by simpa using this)
  · intro h i hi j hj
    by_cases hij : i < j
    · rw [decide_eq_true hij, above2_at (List.getElem?_eq_getElem hi) (List.getElem?_eq_getElem hj), above_ov.2 (h i j hi hj hij)]; rfl
    · rw [decide_eq_false hij]; rfl
/-- From the top on: of each key what is newer stands above, and nothing is below 1 or above a time. -/
def newerB (q : Int) : List EntD → Bool
  | [] => true
  | e :: L => newerB q L && (decide (1 ≤ e.2.1) && (decide (e.2.1 ≤ q) && L.all (fun y => !clash e y)))
theorem newer_iff (q : Int) (L : List EntD) : newerB q L = true ↔ L.Pairwise overE ∧ ∀ e ∈ L, 1 ≤ e.2.1 ∧ e.2.1 ≤ q := by
  induction L with
  | nil => simp [newerB]
  | cons e L ih =>
    simp only [newerB, Bool.and_eq_true, ih, decide_eq_true_eq, List.all_eq_true, over_clash, List.pairwise_cons, List.mem_cons]
    constructor
    · rintro ⟨⟨h1, h2⟩, h3, h4, h5⟩
      refine ⟨⟨h5, h1⟩, ?_⟩
      rintro x (rfl | hx)
      · exact ⟨h3, h4⟩
      · exact h2 x hx
    · rintro ⟨⟨h5, h1⟩, h2⟩
      exact ⟨⟨h1, fun x hx => h2 x (.inr hx)⟩, (h2 e (.inl rfl)).1, (h2 e (.inl rfl)).2, h5⟩
/-- The newest time of a key. -/
def topQ : List EntD → ByteArray → Int
  | [], _ => 0
  | e :: L, k => if e.1 = k then e.2.1 else topQ L k
theorem top_cons (e : EntD) (L : List EntD) (k : ByteArray) : topQ (e :: L) k = if e.1 = k then e.2.1 else topQ L k := rfl
theorem top_is {q : Int} (e : EntD) : ∀ L : List EntD, newerB q L = true → (topQ L e.1 < e.2.1 ↔ (1 ≤ e.2.1 ∧ ∀ y ∈ L, overE e y))
  | [], _ => by simp [topQ]; omega
  | f :: L, h => by
    have hn := (newer_iff q (f :: L)).1 h
    rw [List.pairwise_cons] at hn
    have ih := top_is e L (by simp only [newerB, Bool.and_eq_true] at h; exact h.1)
    rw [top_cons]
    by_cases hk : f.1 = e.1
    · rw [if_pos hk]
      have hf := (hn.2 f (List.mem_cons_self ..)).1
      constructor
      · intro h1
        refine ⟨by omega, ?_⟩
        intro y hy
        rw [List.mem_cons] at hy
        rcases hy with rfl | hy
        · intro _; exact h1
        · intro e1
          have := hn.1.1 y hy (hk.trans e1)
          omega
      · rintro ⟨_, h2⟩
        exact h2 f (List.mem_cons_self ..) hk.symm
    · rw [if_neg hk, ih]
      constructor
      · rintro ⟨h1, h2⟩
        refine ⟨h1, ?_⟩
        intro y hy
        rw [List.mem_cons] at hy
        rcases hy with rfl | hy
        · intro e1; exact absurd e1.symm hk
        · exact h2 y hy
      · rintro ⟨h1, h2⟩
        exact ⟨h1, fun y hy => h2 y (List.mem_cons_of_mem _ hy)⟩
theorem newer_step {q : Int} {e : EntD} {L : List EntD} (h : newerB q L = true) (h1 : topQ L e.1 < e.2.1) (h2 : e.2.1 ≤ q) : newerB q (e :: L) = true := by
  have := (top_is e L h).1 h1
  simp only [newerB, h, Bool.true_and, Bool.and_eq_true, decide_eq_true_eq, List.all_eq_true, over_clash]
  exact ⟨this.1, h2, this.2⟩
theorem newer_stop {q : Int} {e : EntD} {L A : List EntD} (h : ¬ (topQ L e.1 < e.2.1 ∧ e.2.1 ≤ q)) : newerB q (A ++ e :: L) = false := by
  induction A with
  | nil =>
    rw [List.nil_append, Bool.eq_false_iff]
    intro h1
    have hL : newerB q L = true := by simp only [newerB, Bool.and_eq_true] at h1; exact h1.1
    have h3 := (newer_iff q _).1 h1
    rw [List.pairwise_cons] at h3
    have h4 := h3.2 e (List.mem_cons_self ..)
    exact h ⟨(top_is e L hL).2 ⟨h4.1, h3.1.1⟩, h4.2⟩
  | cons a A ih =>
    rw [List.cons_append, newerB, ih]
    rfl

theorem right_over {L : List EntD} (h : rightB L = true) : L.Pairwise overE := by
  rw [List.pairwise_iff_getElem]
  intro i j hi hj hij hk
  rcases lessB_true (right_less h hij (List.getElem?_eq_getElem hi) (List.getElem?_eq_getElem hj)) with h1 | h1
  · rw [hk, bless_self] at h1; cases h1
  · exact h1.2
theorem right_one {L : List EntD} (h : rightB L = true) : ∀ e ∈ L, 1 ≤ e.2.1 := by
  intro e he
  obtain ⟨j, hj, rfl⟩ := List.getElem_of_mem he
  exact (entB_seq (right_ent h (List.getElem?_eq_getElem hj))).1
theorem right_low {L : List EntD} (h : rightB L = true) {e : EntD} (he : e ∈ L) : lowK L = e.1 ∨ Op.bytesLess (lowK L).toList e.1.toList = true := by
  obtain ⟨j, hj, rfl⟩ := List.getElem_of_mem he
  obtain ⟨f, hf, hl⟩ := lowK_at (L := L) (by omega)
  rw [hl]
  by_cases h0 : j = 0
  · subst h0
    rw [List.getElem?_eq_getElem hj] at hf
    cases hf
    exact .inl rfl
  · rcases lessB_true (right_less h (Nat.pos_of_ne_zero h0) hf (List.getElem?_eq_getElem hj)) with h1 | h1
    · exact .inr (by rw [ByteArray.toList_eq, ByteArray.toList_eq]; exact h1)
    · exact .inl h1.1
theorem right_high {L : List EntD} (h : rightB L = true) {e : EntD} (he : e ∈ L) : e.1 = highK L ∨ Op.bytesLess e.1.toList (highK L).toList = true := by
  obtain ⟨j, hj, rfl⟩ := List.getElem_of_mem he
  obtain ⟨f, hf, hl⟩ := highK_at (L := L) (by omega)
  rw [hl]
  by_cases h0 : j = L.length - 1
  · subst h0
    rw [List.getElem?_eq_getElem hj] at hf
    cases hf
    exact .inl rfl
  · rcases lessB_true (right_less h (by omega : j < L.length - 1) (List.getElem?_eq_getElem hj) hf) with h1 | h1
    · exact .inr (by rw [ByteArray.toList_eq, ByteArray.toList_eq]; exact h1)
    · exact .inl h1.1
theorem right_ends {L : List EntD} (h : rightB L = true) (hn : 1 ≤ L.length) : lowK L = highK L ∨ Op.bytesLess (lowK L).toList (highK L).toList = true := by
  obtain ⟨f, hf, hl⟩ := highK_at hn
  rw [hl]
  exact right_low h (List.mem_of_getElem? hf)
theorem apart_at {B : List RunD} (h : levApart B = true) {i : Nat} {p r : RunD} (hp : B[i]? = some p) (hr : B[i + 1]? = some r) : aheadB p.1 r.1 = true := by
  unfold levApart at h
  have := (List.all_eq_true.1 h) (i + 1) (List.mem_range.2 (List.getElem?_eq_some_iff.1 hr).1)
  unfold apAt behindB at this
  simp only [hr, hp] at this
  exact this
theorem apart_far {B : List RunD} (h : levApart B = true) (hok : ∀ r ∈ B, runB r.1 r.2 = true) : ∀ (d i : Nat) {p r : RunD}, B[i]? = some p → B[i + 1 + d]? = some r → Op.bytesLess (highK p.1).toList (lowK r.1).toList = true
  | 0, i, p, r, hp, hr => apart_at h hp hr
  | d + 1, i, p, r, hp, hr => by
    obtain ⟨hl, _⟩ := List.getElem?_eq_some_iff.1 hr
    have hm : B[i + 1 + d]? = some (B[i + 1 + d]'(by omega)) := List.getElem?_eq_getElem _
    have h1 := apart_far h hok d i hp hm
    have h2 : aheadB (B[i + 1 + d]'(by omega)).1 r.1 = true := apart_at h hm hr
    have h3 := runB_parts (hok _ (List.mem_of_getElem? hm))
    unfold aheadB at h2
    rcases right_ends h3.2.2.1 h3.1 with e | e
    · rw [e] at h1; exact bless_trans _ _ _ h1 h2
    · exact bless_trans _ _ _ (bless_trans _ _ _ h1 e) h2
theorem apart_ov {B : List RunD} (h : levApart B = true) (hok : ∀ r ∈ B, runB r.1 r.2 = true) : (B.reverse.map (·.1)).Pairwise Ov := by
  rw [List.pairwise_map, List.pairwise_reverse, List.pairwise_iff_getElem]
  intro i j hi hj hij x hx y hy hk
  exfalso
  have h1 := apart_far h hok (j - i - 1) i (List.getElem?_eq_getElem hi) (by rw [show i + 1 + (j - i - 1) = j by omega]; exact List.getElem?_eq_getElem hj)
  have hi3 := (runB_parts (hok _ (List.getElem_mem hi))).2.2.1
  have hj3 := (runB_parts (hok _ (List.getElem_mem hj))).2.2.1
  have h2 : Op.bytesLess y.1.toList (lowK B[j].1).toList = true := by
    rcases right_high hi3 hy with e | e
    · rw [e]; exact h1
    · exact bless_trans _ _ _ e h1
  have h3 : Op.bytesLess y.1.toList x.1.toList = true := by
    rcases right_low hj3 hx with e | e
    · rw [← e]; exact h2
    · exact bless_trans _ _ _ h2 e
  rw [hk, bless_self] at h3
  cases h3
/-- All lists of a tree, as the program has them. -/
def listsL (M : List EntD) (A B C : List RunD) : List (List EntD) := M :: (A.reverse.map (·.1) ++ (B.reverse.map (·.1) ++ C.reverse.map (·.1)))
theorem ov_flat {X : List EntD} {B : List RunD} : Ov X (flatR B) ↔ ∀ b ∈ B.reverse.map (·.1), Ov X b := by
  unfold Ov flatR
  simp only [List.mem_flatMap, List.mem_map, List.mem_reverse]
  constructor
  · rintro h b ⟨r, hr, rfl⟩ x hx y hy
    exact h x hx y ⟨r, hr, hy⟩
  · rintro h x hx y ⟨r, hr, hy⟩
    exact h r.1 ⟨r, hr, rfl⟩ x hx y hy
theorem flat_ov {X : List EntD} {B : List RunD} : Ov (flatR B) X ↔ ∀ b ∈ B.reverse.map (·.1), Ov b X := by
  unfold Ov flatR
  simp only [List.mem_flatMap, List.mem_map, List.mem_reverse]
  constructor
  · rintro h b ⟨r, hr, rfl⟩ x hx y hy
    exact h x ⟨r, hr, hx⟩ y hy
  · rintro h x ⟨r, hr, hx⟩ y hy
    exact h r.1 ⟨r, hr, rfl⟩ x hx y hy
theorem parts_lists {M : List EntD} {A B C : List RunD} (hB : (B.reverse.map (·.1)).Pairwise Ov) (hC : (C.reverse.map (·.1)).Pairwise Ov) : (partsL M [A, B, C]).Pairwise Ov ↔ (listsL M A B C).Pairwise Ov := by
  unfold partsL listsL
  simp only [List.headD_cons, List.drop_succ_cons, List.drop_zero, List.map_cons, List.map_nil, List.cons_append, List.pairwise_cons, List.pairwise_append, List.mem_append, List.mem_cons, List.not_mem_nil, or_false, List.Pairwise.nil, and_true, false_implies, implies_true]
  constructor
  · rintro ⟨h1, h2, h3, h4⟩
    have hbc := h3 _ rfl
    refine ⟨?_, h2, ⟨hB, hC, ?_⟩, ?_⟩
    · rintro a (h | h | h)
      · exact h1 a (.inl h)
      · exact ov_flat.1 (h1 _ (.inr (.inl rfl))) a h
      · exact ov_flat.1 (h1 _ (.inr (.inr rfl))) a h
    · intro b hb c hc
      exact ov_flat.1 (flat_ov.1 hbc b hb) c hc
    · rintro a ha b (hb | hb)
      · exact ov_flat.1 (h4 a ha _ (.inl rfl)) b hb
      · exact ov_flat.1 (h4 a ha _ (.inr rfl)) b hb
  · rintro ⟨h1, h2, ⟨_, _, h3⟩, h4⟩
    refine ⟨?_, h2, ?_, ?_⟩
    · rintro a (h | h | h)
      · exact h1 a (.inl h)
      · rw [h]; exact ov_flat.2 (fun b hb => h1 b (.inr (.inl hb)))
      · rw [h]; exact ov_flat.2 (fun b hb => h1 b (.inr (.inr hb)))
    · intro c hc
      rw [hc]
      exact flat_ov.2 (fun b hb => ov_flat.2 (fun c hc => h3 b hb c hc))
    · rintro a ha b (hb | hb)
      · rw [hb]; exact ov_flat.2 (fun c hc => h4 a ha c (.inl hc))
      · rw [hb]; exact ov_flat.2 (fun c hc => h4 a ha c (.inr hc))
theorem runs_iff {B : List RunD} {most : Int} {ap : Bool} {q : Int} : runsB B most ap q = true ↔ (B.length : Int) ≤ most ∧ badB B = false ∧ (∀ r ∈ B, withinB r.1 q = true) ∧ (ap = true → levApart B = true) := by
  unfold runsB badB levApart
  simp only [Bool.and_eq_true, decide_eq_true_eq, List.all_eq_true, List.mem_range]
  constructor
  · rintro ⟨h1, h2⟩
    refine ⟨h1, ?_, ?_, ?_⟩
    · rw [List.any_eq_false]
      intro r hr
      obtain ⟨j, hj, rfl⟩ := List.getElem_of_mem hr
      have := h2 j hj
      rw [runAt_some (List.getElem?_eq_getElem hj), Bool.and_eq_true] at this
      simp [this.1]
    · intro r hr
      obtain ⟨j, hj, rfl⟩ := List.getElem_of_mem hr
      have := h2 j hj
      rw [runAt_some (List.getElem?_eq_getElem hj), Bool.and_eq_true, Bool.and_eq_true] at this
      exact this.2.1
    · intro hap j hj
      have := h2 j hj
      rw [runAt_some (List.getElem?_eq_getElem hj), Bool.and_eq_true, Bool.and_eq_true, hap] at this
      unfold apAt
      rw [List.getElem?_eq_getElem hj]
      simpa using this.2.2
  · rintro ⟨h1, h2, h3, h4⟩
    refine ⟨h1, fun j hj => ?_⟩
    rw [List.any_eq_false] at h2
    have e1 := h2 B[j] (List.getElem_mem hj)
    have e2 := h3 B[j] (List.getElem_mem hj)
    rw [runAt_some (List.getElem?_eq_getElem hj), e2]
    have e1' : runB B[j].1 B[j].2 = true := by simpa using e1
    rw [e1']
    cases ap with
    | false => rfl
    | true =>
      have := h4 rfl j hj
      unfold apAt at this
      rw [List.getElem?_eq_getElem hj] at this
      simpa using this
theorem bad_all' {B : List RunD} (h : badB B = false) : ∀ r ∈ B, runB r.1 r.2 = true := by
  unfold badB at h
  rw [List.any_eq_false] at h
  intro r hr
  simpa using h r hr
/-- What the program asks of a tree is what the document asks. -/
theorem tree_impl (q : Int) (M : List EntD) (A B C : List RunD) (S : List Int) :
    treeB q M [A, B, C] S = true ↔ 0 ≤ q ∧ q ≤ 100000 ∧ snapsB S q = true ∧ M.length ≤ 60 ∧ rightB M = true ∧ levelsI A B C = true ∧ newerB q (listsL M A B C).flatten = true := by
  have hI : levelsI A B C = true ↔ ((A.length : Int) ≤ 4 ∧ badB A = false) ∧ ((B.length : Int) ≤ 8 ∧ badB B = false ∧ levApart B = true) ∧ ((C.length : Int) ≤ 8 ∧ badB C = false ∧ levApart C = true) := by
    unfold levelsI ok0 ok1
    simp only [Bool.and_eq_true, decide_eq_true_eq, Bool.not_eq_true']
  have hT : treeB q M [A, B, C] S = true ↔ 0 ≤ q ∧ q ≤ 100000 ∧ M.length ≤ 60 ∧ rightB M = true ∧ withinB M q = true ∧ snapsB S q = true ∧ (runsB A 4 false q = true ∧ runsB B 8 true q = true ∧ runsB C 8 true q = true) ∧ agedB (partsL M [A, B, C]) = true := by
    unfold treeB levelsB
    simp only [Bool.and_eq_true, decide_eq_true_eq, List.length_cons, List.length_nil, Nat.reduceAdd, true_and]
  rw [hT, hI, runs_iff, runs_iff, runs_iff, newer_iff, aged_ov, List.pairwise_flatten]
  have hmem : ∀ {Z : List RunD} {l : List EntD}, l ∈ Z.reverse.map (·.1) → ∃ r ∈ Z, r.1 = l := by
    intro Z l hl
    rw [List.mem_map] at hl
    obtain ⟨r, hr, rfl⟩ := hl
    exact ⟨r, List.mem_reverse.1 hr, rfl⟩
  have hwi : ∀ {L : List EntD}, withinB L q = true ↔ ∀ e ∈ L, e.2.1 ≤ q := by
    intro L
    unfold withinB
    simp only [List.all_eq_true, decide_eq_true_eq]
  have hin : ∀ {l : List EntD}, l ∈ listsL M A B C ↔ l = M ∨ (∃ r ∈ A, r.1 = l) ∨ (∃ r ∈ B, r.1 = l) ∨ (∃ r ∈ C, r.1 = l) := by
    intro l
    unfold listsL
    simp only [List.mem_cons, List.mem_append, List.mem_map, List.mem_reverse]
  constructor
  · rintro ⟨h1, h2, h3, h4, h5, h6, ⟨⟨a1, a2, a3, _⟩, ⟨b1, b2, b3, b4⟩, ⟨c1, c2, c3, c4⟩⟩, h8⟩
    have hB := apart_ov (b4 rfl) (bad_all' b2)
    have hC := apart_ov (c4 rfl) (bad_all' c2)
    refine ⟨h1, h2, h6, h3, h4, ⟨⟨a1, a2⟩, ⟨b1, b2, b4 rfl⟩, ⟨c1, c2, c4 rfl⟩⟩, ⟨?_, (parts_lists hB hC).1 h8⟩, ?_⟩
    · intro l hl
      rcases hin.1 hl with rfl | ⟨r, hr, rfl⟩ | ⟨r, hr, rfl⟩ | ⟨r, hr, rfl⟩
      · exact right_over h4
      · exact right_over (runB_parts (bad_all' a2 r hr)).2.2.1
      · exact right_over (runB_parts (bad_all' b2 r hr)).2.2.1
      · exact right_over (runB_parts (bad_all' c2 r hr)).2.2.1
    · intro e he
      obtain ⟨l, hl, hx⟩ := List.mem_flatten.1 he
      clear he
      have he := hx
      rcases hin.1 hl with rfl | ⟨r, hr, rfl⟩ | ⟨r, hr, rfl⟩ | ⟨r, hr, rfl⟩
      · exact ⟨right_one h4 e he, hwi.1 h5 e he⟩
      · exact ⟨right_one (runB_parts (bad_all' a2 r hr)).2.2.1 e he, hwi.1 (a3 r hr) e he⟩
      · exact ⟨right_one (runB_parts (bad_all' b2 r hr)).2.2.1 e he, hwi.1 (b3 r hr) e he⟩
      · exact ⟨right_one (runB_parts (bad_all' c2 r hr)).2.2.1 e he, hwi.1 (c3 r hr) e he⟩
  · rintro ⟨h1, h2, h6, h3, h4, ⟨⟨a1, a2⟩, ⟨b1, b2, b4⟩, ⟨c1, c2, c4⟩⟩, ⟨_, h8⟩, h9⟩
    have hB := apart_ov b4 (bad_all' b2)
    have hC := apart_ov c4 (bad_all' c2)
    have hw : ∀ l ∈ listsL M A B C, withinB l q = true := fun l hl => hwi.2 (fun e he => (h9 e (List.mem_flatten.2 ⟨l, hl, he⟩)).2)
    exact ⟨h1, h2, h3, h4, hw M (hin.2 (.inl rfl)), h6, ⟨⟨a1, a2, fun r hr => hw _ (hin.2 (.inr (.inl ⟨r, hr, rfl⟩))), fun e => by cases e⟩, ⟨b1, b2, fun r hr => hw _ (hin.2 (.inr (.inr (.inl ⟨r, hr, rfl⟩)))), fun _ => b4⟩, ⟨c1, c2, fun r hr => hw _ (hin.2 (.inr (.inr (.inr ⟨r, hr, rfl⟩)))), fun _ => c4⟩⟩, (parts_lists hB hC).2 h8⟩
end Go.Proofs.YtlmgojlffgkciaaGreat

namespace Go.Proofs.YtlmgojlffgkciaaGreat
open Go.RowKit Go.Shelf

attribute [local go_sem] Oper.semAt_some

/-- Heads of slices, and the entries that they hold. -/
def HdrsAt (w : World) (vs : List Value) (P : List (List EntD)) : Prop := vs.length = P.length ∧ ∀ (i : Nat) A, P[i]? = some A → ∃ s m d, vs[i]? = some (.slice s m d) ∧ EntsAt w s m d A
theorem HdrsAt.one {w : World} {s : Option Addr} {m d : Nat} {A : List EntD} (h : EntsAt w s m d A) : HdrsAt w [.slice s m d] [A] := by
  refine ⟨rfl, fun i B hB => ?_⟩
  cases i with
  | zero => simp at hB; subst hB; exact ⟨s, m, d, rfl, h⟩
  | succ i => simp at hB
theorem HdrsAt.append {w : World} {vs vs' : List Value} {P P' : List (List EntD)} (h : HdrsAt w vs P) (h' : HdrsAt w vs' P') : HdrsAt w (vs ++ vs') (P ++ P') := by
  refine ⟨by rw [List.length_append, List.length_append, h.1, h'.1], fun i A hA => ?_⟩
  by_cases hi : i < P.length
  · rw [List.getElem?_append_left hi] at hA
    rw [List.getElem?_append_left (by rw [h.1]; exact hi)]
    exact h.2 i A hA
  · rw [List.getElem?_append_right (by omega)] at hA
    rw [List.getElem?_append_right (by rw [h.1]; omega), h.1]
    exact h'.2 _ A hA
theorem HdrsAt.map {w : World} {α : Type} {f : α → Value} {g : α → List EntD} (h : ∀ x, ∃ s m d, f x = .slice s m d ∧ EntsAt w s m d (g x)) (L : List α) : HdrsAt w (L.map f) (L.map g) := by
  refine ⟨by simp, fun i A hA => ?_⟩
  rw [List.getElem?_map] at hA ⊢
  cases hx : L[i]? with
  | none => rw [hx] at hA; cases hA
  | some x =>
    rw [hx] at hA
    simp at hA
    subst hA
    obtain ⟨s, m, d, e, hE⟩ := h x
    exact ⟨s, m, d, by simp [e], hE⟩
theorem HdrsAt.keep {w w' : World} {vs : List Value} {P : List (List EntD)} (h : HdrsAt w vs P) (hb : Below w.heap.size w w') : HdrsAt w' vs P :=
  ⟨h.1, fun i A hA => by obtain ⟨s, m, d, e, hE⟩ := h.2 i A hA; exact ⟨s, m, d, e, hE.keep hb⟩⟩

theorem down_map {α β : Type} (B : List α) (d : α) (f : α → β) : (downTo B.length 0).map (fun x => f ((B[x.1]?).getD d)) = B.reverse.map f := by
  unfold downTo
  rw [List.drop_zero, List.map_reverse, List.map_reverse]
  congr 1
  apply List.ext_getElem
  · simp
  · intro i h1 h2
    simp at h1
    simp

theorem down_map' {α β : Type} {n : Nat} (B : List α) (d : α) (f : α → β) (h : B.length = n) : (downTo n 0).map (fun x => f ((B[x.1]?).getD d)) = B.reverse.map f := by
  subst h
  exact down_map B d f

/-- Heads of the runs of a level. -/
theorem RunsIn.heads {lo : Nat} {w : World} {a : Option Addr} {n c : Nat} {B : List RunD} (h : RunsIn lo w a n c B) :
    ∃ t : Nat → Option Addr × Nat × Nat, (∀ b o, a = some ⟨b, o, none⟩ → 1 ≤ n → b < w.heap.size ∧ ∀ i, i < n → w.cell? ⟨b, o + i * 2, none⟩ = some (.slice (t i).1 (t i).2.1 (t i).2.2) ∧ w.cell? ⟨b, o + i * 2 + 1, none⟩ = some (.int .i64 ((B[i]?).getD ([], 0)).2)) ∧
      ∀ i, i < n → EntsAt w (t i).1 (t i).2.1 (t i).2.2 ((B[i]?).getD ([], 0)).1 := by
  have hl := h.length
  by_cases hn : 1 ≤ n
  · obtain ⟨b, o, rfl, hb⟩ := h.form hn
    have each : ∀ i, i < n → ∃ t : Option Addr × Nat × Nat, w.cell? ⟨b, o + i * 2, none⟩ = some (.slice t.1 t.2.1 t.2.2) ∧ w.cell? ⟨b, o + i * 2 + 1, none⟩ = some (.int .i64 ((B[i]?).getD ([], 0)).2) ∧ EntsAt w t.1 t.2.1 t.2.2 ((B[i]?).getD ([], 0)).1 := by
      intro i hi
      obtain ⟨_, s, m, d, c0, c1, hE⟩ := h.runs _ rfl i (by omega)
      refine ⟨(s, m, d), c0, ?_, ?_⟩
      · rw [List.getElem?_eq_getElem (by omega : i < B.length)]; exact c1
      · rw [List.getElem?_eq_getElem (by omega : i < B.length)]; exact hE.1
    obtain ⟨t, ht⟩ := Deep.choose_lt each
    refine ⟨t, ?_, fun i hi => (ht i hi).2.2⟩
    rintro b' o' e _
    cases e
    exact ⟨hb, fun i hi => ⟨(ht i hi).1, (ht i hi).2.1⟩⟩
  · exact ⟨fun _ => (none, 0, 0), fun b o e h1 => absurd h1 hn, fun i hi => absurd hi (by omega)⟩

/-- The lists down to level i. -/
def listsTo (M : List EntD) (V : List (List RunD)) (i : Nat) : List (List EntD) := M :: (V.take i).flatMap (fun B => B.reverse.map (·.1))
theorem listsTo_step {M : List EntD} {V : List (List RunD)} {i : Nat} {B : List RunD} (h : V[i]? = some B) : listsTo M V (i + 1) = listsTo M V i ++ B.reverse.map (·.1) := by
  unfold listsTo
  rw [List.take_add_one, h]
  simp
theorem listsTo_all (M : List EntD) (A B C : List RunD) : listsTo M [A, B, C] 3 = listsL M A B C := by
  unfold listsTo listsL
  simp
/-- What the lists are. -/
def ListsR (w0 w : World) (P : List (List EntD)) (e : Ending) (w' : World) : Prop := (∃ g n c vs, e = .returned (.slice (some ⟨g, 0, none⟩) n c) ∧ w'.ownsRow w.heap.size 28 1 (.slice (some ⟨g, 0, none⟩) n c) n vs ∧ HdrsAt w0 vs P) ∧ Below w.heap.size w w'

set_option maxRecDepth 100000 in
set_option maxHeartbeats 8000000 in
theorem implLists (lo : Nat) (q : Int) (am ak : Option Addr) (nm cm nk ck : Nat) (a0 a1 a2 : Option Addr) (n0 c0 n1 c1 n2 c2 : Nat) (M : List EntD) (A B C : List RunD) (w0 w : World) (hw0 : Below w0.heap.size w0 w) (hM : EntsAt w0 am nm cm M) (h0 : RunsIn lo w0 a0 n0 c0 A) (h1 : RunsIn lo w0 a1 n1 c1 B) (h2 : RunsIn lo w0 a2 n2 c2 C) (s0 : n0 ≤ 8) (s1 : n1 ≤ 8) (s2 : n2 ≤ 8) :
    CallsIn Fence.wide 4 Tryz.prog 70 #[.agg #[.int .i64 q, .slice am nm cm, .slice a0 n0 c0, .slice a1 n1 c1, .slice a2 n2 c2, .slice ak nk ck]] w (ListsR w0 w (listsL M A B C)) := by
  have HW0 : Hid (Below w0.heap.size w0 w) := hw0
  clear hw0
  have HL : Hid (∀ i, i < 3 → ∃ ai ni ci Bi, (∀ w', (Instr.index 65 (.agg #[.slice a0 n0 c0, .slice a1 n1 c1, .slice a2 n2 c2]) (.int .i64 (i : Nat))).run Tryz.prog w' = .ok (.slice ai ni ci) w') ∧ RunsIn lo w0 ai ni ci Bi ∧ ni ≤ 8 ∧ [A, B, C][i]? = some Bi) := by
    intro i hi
    have : i = 0 ∨ i = 1 ∨ i = 2 := by omega
    rcases this with rfl | rfl | rfl
    · exact ⟨a0, n0, c0, A, fun w' => idx_0 w' _ _ _ _ _ _ _ _ _, h0, s0, rfl⟩
    · exact ⟨a1, n1, c1, B, fun w' => idx_1 w' _ _ _ _ _ _ _ _ _, h1, s1, rfl⟩
    · exact ⟨a2, n2, c2, C, fun w' => idx_2 w' _ _ _ _ _ _ _ _ _, h2, s2, rfl⟩
  clear h0 h1 h2 s0 s1 s2
  have HM : Hid (EntsAt w0 am nm cm M) := hM
  clear hM
  obtain ⟨i0, hi, hz0, hz1, hz2⟩ := info_parts Tryz.infoEntS
  refine callsIn_of_wp_marks Tryz.func70 rfl trivial ?_ rfl
  simp only [Tryz.ntmps70, List.size_toArray, List.length_cons, List.length_nil, Nat.reduceAdd, Nat.reduceSub, Array.replicate_succ, Array.replicate_zero, List.push_toArray, List.append_toArray, List.nil_append, List.cons_append]
  gi_wp2
  obtain ⟨W0, hW0⟩ : ∃ W0, W0 = (((w.alloc (.cells #[.int .i64 q, .slice am nm cm, .slice a0 n0 c0, .slice a1 n1 c1, .slice a2 n2 c2, .slice ak nk ck] 67)).alloc (.cells #[.slice am nm cm] 28)).alloc (.cells #[.slice (some ⟨w.heap.size + 1, 0, none⟩) 1 1] 85)) := ⟨_, rfl⟩
  have hB0 : Below w.heap.size w W0 := by rw [hW0]; exact (((Below.refl _ w).alloc (Nat.le_refl _) _).alloc (by simp) _).alloc (by simp; omega) _
  have bA0 : Boxed W0 (w.heap.size + 1 + 1) 85 (.slice (some ⟨w.heap.size + 1, 0, none⟩) 1 1) := by
    have := Boxed.new ((w.alloc (.cells #[.int .i64 q, .slice am nm cm, .slice a0 n0 c0, .slice a1 n1 c1, .slice a2 n2 c2, .slice ak nk ck] 67)).alloc (.cells #[.slice am nm cm] 28)) 85 (.slice (some ⟨w.heap.size + 1, 0, none⟩) 1 1)
    rw [World.size_alloc, World.size_alloc] at this
    rw [hW0]
    exact this
  have hr0 : W0.ownsRow w.heap.size 28 1 (.slice (some ⟨w.heap.size + 1, 0, none⟩) 1 1) 1 [.slice am nm cm] := by
    have := (World.ownsRow_lit (base := w.heap.size) (e := 28) (size := 1) (w.alloc (.cells #[.int .i64 q, .slice am nm cm, .slice a0 n0 c0, .slice a1 n1 c1, .slice a2 n2 c2, .slice ak nk ck] 67)) #[.slice am nm cm] 1 (by simp) (by unfold maxLen; omega) rfl).alloc (.cells #[.slice (some ⟨w.heap.size + 1, 0, none⟩) 1 1] 85)
    rw [World.size_alloc] at this
    rw [hW0]
    exact this
  rw [← hW0]
  clear hW0
  refine wpIn_loop (fun a' W => ∃ (i : Nat) (ds : List Nat) (u5 u14 u15 u16 u17 u25 : Value) (v : Value) (vs : List Value), a' = { tmps := #[.agg #[.int .i64 q, .slice am nm cm, .slice a0 n0 c0, .slice a1 n1 c1, .slice a2 n2 c2, .slice ak nk ck], .pointer (some ⟨w.heap.size, 0, none⟩), .slice none 0 0, .pointer (some ⟨w.heap.size + 1 + 1, 0, none⟩), undef, u5, undef, undef, .pointer (some ⟨w.heap.size, 1, none⟩), .slice am nm cm, .slice (some ⟨w.heap.size + 1, 0, none⟩) 1 1, .pointer (some ⟨w.heap.size, 2, none⟩), .agg #[.slice a0 n0 c0, .slice a1 n1 c1, .slice a2 n2 c2], .int .i64 (i : Nat), u14, u15, u16, u17, undef, undef, undef, undef, undef, undef, undef, u25, undef], defers := marksOf ds } ∧
      i ≤ 3 ∧ Boxed W (w.heap.size + 1 + 1) 85 v ∧ W.ownsRow w.heap.size 28 1 v vs.length vs ∧ HdrsAt w0 vs (listsTo M [A, B, C] i) ∧ vs.length ≤ 1 + 8 * i ∧ 1 ≤ vs.length ∧ MarksAt w.heap.size W ds ∧ Below w.heap.size w W) (fun a' _ => 3 - (intOf (a'.tmps.getD 13 undef)).toNat) ?_ ?_
  · exact ⟨0, [], undef, undef, undef, undef, undef, undef, _, [.slice am nm cm], rfl, by omega, bA0, hr0, HdrsAt.one HM.out, by simp, by simp, ⟨List.nodup_nil, fun D hD => by cases hD⟩, hB0⟩
  rintro a' W ⟨i, ds, u5, u14, u15, u16, u17, u25, v, vs, rfl, hi3, bA, hrow, hH, hvl, hv1, hmk, hB⟩
  clear hB0 bA0 hr0
  have HH : Hid (HdrsAt w0 vs (listsTo M [A, B, C] i)) := hH
  have HMK : Hid (MarksAt w.heap.size W ds) := hmk
  have HB : Hid (Below w.heap.size w W) := hB
  have hsW := hB.size
  clear hH hmk hB
  by_cases hlt : i < 3
  · have hltI : (i : Int) < 3 := by omega
    have wi : IntKind.i64.wrap ((i : Int) + 1) = ((i + 1 : Nat) : Int) := by rw [IntWalk.i64_left]; unfold wrap64; omega
    obtain ⟨ai, ni, ci, Bi, hidx, hRi, hni, hVi⟩ := HL.out i hlt
    have HR : Hid (RunsIn lo w0 ai ni ci Bi) := hRi
    have HV : Hid ([A, B, C][i]? = some Bi) := hVi
    clear hRi hVi
    gi_wp2_with (refine ⟨trivial, ?_⟩; gi_at_call 112; refine (backR_in _ _ _ _ _).mono ?_; rintro e w' ⟨rfl, rfl⟩)
    obtain ⟨t, ht1, ht2⟩ := HR.out.heads
    have bP := Boxed.new W 64 (.slice ai ni ci)
    have hB1 : Below w.heap.size w (W.alloc (.cells #[.slice ai ni ci] 64)) := HB.out.alloc hsW _
    have hB01 := HW0.out.trans (hB1.mono HW0.out.size)
    have bA1 := bA.alloc (.cells #[.slice ai ni ci] 64)
    have hrow1 := hrow.alloc (.cells #[.slice ai ni ci] 64)
    have hmk1 := HMK.out.others (KeepsOthers.alloc W (.cells #[.slice ai ni ci] 64))
    have hmlt : ∀ D ∈ ds, D < W.heap.size := fun D hD => (Array.getElem?_eq_some_iff.1 (HMK.out.2 D hD).2).1
    have hbl := bA.lt
    have HT2 : Hid (∀ i, i < ni → EntsAt w0 (t i).1 (t i).2.1 (t i).2.2 ((Bi[i]?).getD ([], 0)).1) := ht2
    have HMLT : Hid (∀ D ∈ ds, D < W.heap.size) := hmlt
    clear ht2
    refine wpIn_rangeFunc_ownH rfl (by omega) (gf := 164) (lb := #[.pointer (some ⟨W.heap.size, 0, none⟩)]) rfl trivial (enters_of Tryz.func164 (by kernel_rfl) rfl)
      (backR_stops (4 - 1) (by omega) W.heap.size (fun k => k < w.heap.size ∨ k = W.heap.size) ai ni ci (fun i => .slice (t i).1 (t i).2.1 (t i).2.2) (fun i => .int .i64 ((Bi[i]?).getD ([], 0)).2) _ (.inr rfl) bP.cell (fun h => by obtain ⟨b, o, e, _⟩ := HR.out.form h; exact ⟨b, o, e⟩) HR.out.room HR.out.big (fun k hk => by simp; omega) (fun b o e h1 => ⟨.inl (Nat.lt_of_lt_of_le (ht1 b o e h1).1 HW0.out.size), fun i hi => ⟨cell_later hB01 ((ht1 b o e h1).2 i hi).1, cell_later hB01 ((ht1 b o e h1).2 i hi).2⟩⟩))
      KeepS.trans (keepS_b (fun k hk => by simp; omega)) (Below.refl _ _) (fun _ => rfl)
      (fun pre W' => (∃ v', Boxed W' (w.heap.size + 1 + 1) 85 v' ∧ W'.ownsRow w.heap.size 28 1 v' (vs.length + pre.length) (vs ++ pre.map (fun x => Value.slice (t x.1).1 (t x.1).2.1 (t x.1).2.2)) ∧ True) ∧ (Boxed W' W.heap.size 64 (.slice ai ni ci) ∧ (Below w.heap.size w W' ∧ MarksAt w.heap.size W' ds)))
      (fun _ _ _ => False)
      (OwnFrom.and (Own.from (holdsRow_own w.heap.size (w.heap.size + 1 + 1) 85 28 1 (fun pre : List (Fin ni) => vs.length + pre.length) (fun pre => vs ++ pre.map (fun x => Value.slice (t x.1).1 (t x.1).2.1 (t x.1).2.2)) (fun _ _ => True)) _) (OwnFrom.and (Own.from (boxed_own _ _ _) _) (OwnFrom.and (ownFrom_below (Nat.le_refl _) (by simp; omega)) (marks_own (fun D hD => by have := hmlt D hD; simp; omega)))))
      (fun _ _ _ _ _ hs _ _ => hs)
      ⟨⟨v, bA1, by simpa using hrow1, trivial⟩, bP, hB1, hmk1⟩
      (fun x a' W' => ∃ Bx, w.heap.size + 1 + 1 < Bx ∧ W'.cell? ⟨Bx, 0, none⟩ = some (.slice (t x.1).1 (t x.1).2.1 (t x.1).2.2) ∧ a' = { tmps := #[.agg #[.int .i64 q, .slice am nm cm, .slice a0 n0 c0, .slice a1 n1 c1, .slice a2 n2 c2, .slice ak nk ck], .pointer (some ⟨w.heap.size, 0, none⟩), .slice none 0 0, .pointer (some ⟨w.heap.size + 1 + 1, 0, none⟩), undef, .slice ai ni ci, undef, .pointer (some ⟨Bx, 0, none⟩), .pointer (some ⟨w.heap.size, 1, none⟩), .slice am nm cm, .slice (some ⟨w.heap.size + 1, 0, none⟩) 1 1, .pointer (some ⟨w.heap.size, 2, none⟩), .agg #[.slice a0 n0 c0, .slice a1 n1 c1, .slice a2 n2 c2], .int .i64 (i : Nat), .bool true, .slice ai ni ci, .slice ai ni ci, .func (.func 164) #[] #[.pointer (some ⟨W.heap.size, 0, none⟩)], .int .i64 (x.1 : Nat), .agg #[.slice (t x.1).1 (t x.1).2.1 (t x.1).2.2, .int .i64 ((Bi[x.1]?).getD ([], 0)).2], undef, undef, undef, undef, undef, u25, undef], defers := [] })
      (fun x a' _ X Y row hs hg hr => by obtain ⟨Bx, h1, h2, h3⟩ := hs; exact ⟨Bx, h1, cell_kept h2 hg (fun r e => (hr r e).2), h3⟩)
      ?assign ?body ?done ?stop
    case assign =>
      rintro l pre x W2 K ⟨⟨v2, bA2, hrow2, _⟩, bP2, hB2, hmk2⟩ hK
      have hlt2 := bA2.lt
      gi_wp2
      exact hK _ _ ((KeepsOthers.alloc _ _).from _) (keepS_box ((Below.refl _ W2).alloc hB2.size _) bP2 (bP2.alloc _)) ⟨⟨v2, bA2.alloc _, hrow2.alloc _, trivial⟩, bP2.alloc _, hB2.alloc hB2.size _, hmk2.others (KeepsOthers.alloc _ _)⟩ ⟨W2.heap.size, hlt2, by simp, rfl⟩
    case body =>
      rintro l pre x a' W2 hl _ ⟨⟨v2, bA2, hrow2, _⟩, bP2, hB2, hmk2⟩ ⟨Bx, hBx, cx, rfl⟩ hpl
      have cA := bA2.cell
      have HMK2 : Hid (MarksAt w.heap.size W2 ds) := hmk2
      have HB2 : Hid (Below w.heap.size w W2) := hB2
      have hs2 := hB2.size
      clear hmk2 hB2
      gi_wp2_with (gi_at_builtin; refine wpListIn_append_own _ rfl _ _ 85 rfl w.heap.size 28 i0 (.slice none 0 0) 1 24 Tryz.underlying85 hi hz0 hz1 hz2 rfl (by decide) _ _ _ rfl (hrow2.alloc _) ⟨W2.heap.size, 0, none⟩ 1 1 [Value.slice (t x.1).1 (t x.1).2.1 (t x.1).2.2] rfl rfl (cell_one_new _ _ _) (by simp [Value.oneCell']) (by unfold maxLen; omega) (by omega) (by simp; omega) ?_; intro v' w1 hown' hgrow _; obtain ⟨g', cap', rfl⟩ := ownsRow_succ hown'; obtain ⟨hv1, hv2, hr2, hk2, hb2⟩ := bA2.appended (by decide) hrow2 hs2 (by omega) hown' hgrow; have hc1 := hv1.cell; have hf1 := hv1.frozen)
      have bP3 : Boxed (w1.setCell ⟨w.heap.size + 1 + 1, 0, none⟩ (.slice (some ⟨g', 0, none⟩) (vs.length + pre.length + 1) cap')) W.heap.size 64 (.slice ai ni ci) := ((bP2.alloc _).kept hgrow (bP2.not_row (by decide) hrow2)).other (by omega) _
      refine ⟨hk2.from _, keepS_box hb2 bP2 bP3, ⟨⟨_, hv2, ?_, trivial⟩, bP3, HB2.out.trans hb2, HMK2.out.others hk2⟩⟩
      rw [List.map_append, List.length_append, ← List.append_assoc]
      exact hr2
    case done =>
      rintro D xs W2 hD rfl ⟨⟨v2, bA2, hrow2, _⟩, bP2, hB2, hmk2⟩ hK
      gi_wp2
      have hmp := down_map' Bi ([], 0) (·.1) HR.out.length
      have hdl : (downTo ni 0).length = ni := by rw [down_len]; rfl
      refine ⟨⟨i + 1, D :: ds, _, _, _, _, _, _, v2, vs ++ (downTo ni 0).map (fun x => Value.slice (t x.1).1 (t x.1).2.1 (t x.1).2.2), rfl, by omega, bA2, ?_, ?_, ?_, ?_, ?_, hB2⟩, ?_⟩
      · rw [List.length_append, List.length_map]
        exact hrow2
      · rw [listsTo_step HV.out, ← hmp]
        exact HH.out.append (HdrsAt.map (α := Fin ni) (fun x => ⟨_, _, _, rfl, HT2.out x.1 x.2⟩) _)
      · rw [List.length_append, List.length_map, hdl]; omega
      · rw [List.length_append]; omega
      · simp at hD
        refine ⟨List.nodup_cons.2 ⟨fun h => by have := HMLT.out D h; omega, hmk2.1⟩, fun D' hD' => ?_⟩
        rcases List.mem_cons.1 hD' with rfl | h
        · exact ⟨by omega, hK⟩
        · exact hmk2.2 D' h
      · simp [intOf]; omega
    case stop =>
      rintro D c pre W2 _ _ h _
      exact h.elim
  · have hi : i = 3 := by omega
    subst hi
    obtain ⟨n', hn'⟩ : ∃ n', vs.length = n' + 1 := ⟨vs.length - 1, by omega⟩
    rw [hn'] at hrow
    obtain ⟨g, c, rfl⟩ := ownsRow_succ hrow
    have cA := bA.cell
    gi_wp2
    refine leaves_marks ds W HMK.out (fun W' hb' hc' => ?_)
    refine ⟨_, results_tmp rfl _ _ _, ⟨g, n' + 1, c, vs, rfl, ?_, ?_⟩, HB.out.trans hb'⟩
    · refine ⟨hrow.1, ?_⟩
      rcases hrow.2 with hn | ⟨g1, cap1, cur1, e1, hb1, hgb, rest⟩
      · exact .inl hn
      · exact .inr ⟨g1, cap1, cur1, e1, hb1, hc' g1 _ hgb rfl, rest⟩
    · rw [← listsTo_all]; exact HH.out
end Go.Proofs.YtlmgojlffgkciaaGreat
