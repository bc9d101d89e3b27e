/-
  Plain: what the program asks of a tree is what the document asks; no statement of the program stands here.
-/
import Derived.Test.YtapjkbpfhmbfaaaGreatDoorSo30
import Derived.Test.YtapjkbpfhmbfaaaGreatDoorSo31
import Derived.Test.YtapjkbpfhmbfaaaGreatDoorSo00
namespace Go.Proofs.YtapjkbpfhmbfaaaGreatDoor
open Go.RowKit
def overE (x y : EntD) : Prop := x.1 = y.1 → y.2.1 < x.2.1
theorem over_clash (x y : EntD) : (!clash x y) = true ↔ overE x y := by
  unfold clash overE
  by_cases h : x.1 = y.1
  · simp [h]
  · simp [h]
def Ov (A B : List EntD) : Prop := ∀ x ∈ A, ∀ y ∈ B, overE x y
theorem above_ov {A B : List EntD} : aboveB A B = true ↔ Ov A B := by
  unfold aboveB Ov
  simp only [List.all_eq_true, over_clash]
theorem aged_ov {P : List (List EntD)} : agedB P = true ↔ P.Pairwise Ov := by
  rw [List.pairwise_iff_getElem]
  unfold agedB
  simp only [List.all_eq_true, List.mem_range]
  constructor
  · intro h i j hi hj hij
    have := h i hi j hj
    rw [decide_eq_true hij, above2_at (List.getElem?_eq_getElem hi) (List.getElem?_eq_getElem hj)] at this
    exact above_ov.1 (by simpa using this)
  · intro h i hi j hj
    by_cases hij : i < j
    · rw [decide_eq_true hij, above2_at (List.getElem?_eq_getElem hi) (List.getElem?_eq_getElem hj), above_ov.2 (h i j hi hj hij)]; rfl
    · rw [decide_eq_false hij]; rfl
def newerB (q : Int) : List EntD → Bool
  | [] => true
  | e :: L => newerB q L && (decide (1 ≤ e.2.1) && (decide (e.2.1 ≤ q) && L.all (fun y => !clash e y)))
theorem newer_iff (q : Int) (L : List EntD) : newerB q L = true ↔ L.Pairwise overE ∧ ∀ e ∈ L, 1 ≤ e.2.1 ∧ e.2.1 ≤ q := by
  induction L with
  | nil => simp [newerB]
  | cons e L ih =>
    simp only [newerB, Bool.and_eq_true, ih, decide_eq_true_eq, List.all_eq_true, over_clash, List.pairwise_cons, List.mem_cons]
    constructor
    · rintro ⟨⟨h1, h2⟩, h3, h4, h5⟩
      refine ⟨⟨h5, h1⟩, ?_⟩
      rintro x (rfl | hx)
      · exact ⟨h3, h4⟩
      · exact h2 x hx
    · rintro ⟨⟨h5, h1⟩, h2⟩
      exact ⟨⟨h1, fun x hx => h2 x (.inr hx)⟩, (h2 e (.inl rfl)).1, (h2 e (.inl rfl)).2, h5⟩
def topQ : List EntD → ByteArray → Int
  | [], _ => 0
  | e :: L, k => if e.1 = k then e.2.1 else topQ L k
theorem top_cons (e : EntD) (L : List EntD) (k : ByteArray) : topQ (e :: L) k = if e.1 = k then e.2.1 else topQ L k := rfl
theorem top_is {q : Int} (e : EntD) : ∀ L : List EntD, newerB q L = true → (topQ L e.1 < e.2.1 ↔ (1 ≤ e.2.1 ∧ ∀ y ∈ L, overE e y))
  | [], _ => by simp [topQ]; omega
  | f :: L, h => by
    have hn := (newer_iff q (f :: L)).1 h
    rw [List.pairwise_cons] at hn
    have ih := top_is e L (by simp only [newerB, Bool.and_eq_true] at h; exact h.1)
    rw [top_cons]
    by_cases hk : f.1 = e.1
    · rw [if_pos hk]
      have hf := (hn.2 f (List.mem_cons_self ..)).1
      constructor
      · intro h1
        refine ⟨by omega, ?_⟩
        intro y hy
        rw [List.mem_cons] at hy
        rcases hy with rfl | hy
        · intro _; exact h1
        · intro e1
          have := hn.1.1 y hy (hk.trans e1)
          omega
      · rintro ⟨_, h2⟩
        exact h2 f (List.mem_cons_self ..) hk.symm
    · rw [if_neg hk, ih]
      constructor
      · rintro ⟨h1, h2⟩
        refine ⟨h1, ?_⟩
        intro y hy
        rw [List.mem_cons] at hy
        rcases hy with rfl | hy
        · intro e1; exact absurd e1.symm hk
        · exact h2 y hy
      · rintro ⟨h1, h2⟩
        exact ⟨h1, fun y hy => h2 y (List.mem_cons_of_mem _ hy)⟩
theorem newer_step {q : Int} {e : EntD} {L : List EntD} (h : newerB q L = true) (h1 : topQ L e.1 < e.2.1) (h2 : e.2.1 ≤ q) : newerB q (e :: L) = true := by
  have := (top_is e L h).1 h1
  simp only [newerB, h, Bool.true_and, Bool.and_eq_true, decide_eq_true_eq, List.all_eq_true, over_clash]
  exact ⟨this.1, h2, this.2⟩
theorem newer_stop {q : Int} {e : EntD} {L A : List EntD} (h : ¬ (topQ L e.1 < e.2.1 ∧ e.2.1 ≤ q)) : newerB q (A ++ e :: L) = false := by
  induction A with
  | nil =>
    rw [List.nil_append, Bool.eq_false_iff]
    intro h1
    have hL : newerB q L = true := by simp only [newerB, Bool.and_eq_true] at h1; exact h1.1
    have h3 := (newer_iff q _).1 h1
    rw [List.pairwise_cons] at h3
    have h4 := h3.2 e (List.mem_cons_self ..)
    exact h ⟨(top_is e L hL).2 ⟨h4.1, h3.1.1⟩, h4.2⟩
  | cons a A ih =>
    rw [List.cons_append, newerB, ih]
    rfl
theorem right_over {L : List EntD} (h : rightB L = true) : L.Pairwise overE := by
  rw [List.pairwise_iff_getElem]
  intro i j hi hj hij hk
  rcases lessB_true (right_less h hij (List.getElem?_eq_getElem hi) (List.getElem?_eq_getElem hj)) with h1 | h1
  · rw [hk, bless_self] at h1; cases h1
  · exact h1.2
theorem right_one {L : List EntD} (h : rightB L = true) : ∀ e ∈ L, 1 ≤ e.2.1 := by
  intro e he
  obtain ⟨j, hj, rfl⟩ := List.getElem_of_mem he
  exact (entB_seq (right_ent h (List.getElem?_eq_getElem hj))).1
theorem right_low {L : List EntD} (h : rightB L = true) {e : EntD} (he : e ∈ L) : lowK L = e.1 ∨ Op.bytesLess (lowK L).toList e.1.toList = true := by
  obtain ⟨j, hj, rfl⟩ := List.getElem_of_mem he
  obtain ⟨f, hf, hl⟩ := lowK_at (L := L) (by omega)
  rw [hl]
  by_cases h0 : j = 0
  · subst h0
    rw [List.getElem?_eq_getElem hj] at hf
    cases hf
    exact .inl rfl
  · rcases lessB_true (right_less h (Nat.pos_of_ne_zero h0) hf (List.getElem?_eq_getElem hj)) with h1 | h1
    · exact .inr (by rw [ByteArray.toList_eq, ByteArray.toList_eq]; exact h1)
    · exact .inl h1.1
theorem right_high {L : List EntD} (h : rightB L = true) {e : EntD} (he : e ∈ L) : e.1 = highK L ∨ Op.bytesLess e.1.toList (highK L).toList = true := by
  obtain ⟨j, hj, rfl⟩ := List.getElem_of_mem he
  obtain ⟨f, hf, hl⟩ := highK_at (L := L) (by omega)
  rw [hl]
  by_cases h0 : j = L.length - 1
  · subst h0
    rw [List.getElem?_eq_getElem hj] at hf
    cases hf
    exact .inl rfl
  · rcases lessB_true (right_less h (by omega : j < L.length - 1) (List.getElem?_eq_getElem hj) hf) with h1 | h1
    · exact .inr (by rw [ByteArray.toList_eq, ByteArray.toList_eq]; exact h1)
    · exact .inl h1.1
theorem right_ends {L : List EntD} (h : rightB L = true) (hn : 1 ≤ L.length) : lowK L = highK L ∨ Op.bytesLess (lowK L).toList (highK L).toList = true := by
  obtain ⟨f, hf, hl⟩ := highK_at hn
  rw [hl]
  exact right_low h (List.mem_of_getElem? hf)
theorem apart_at {B : List RunD} (h : levApart B = true) {i : Nat} {p r : RunD} (hp : B[i]? = some p) (hr : B[i + 1]? = some r) : aheadB p.1 r.1 = true := by
  unfold levApart at h
  have := (List.all_eq_true.1 h) (i + 1) (List.mem_range.2 (List.getElem?_eq_some_iff.1 hr).1)
  unfold apAt behindB at this
  simp only [hr, hp] at this
  exact this
theorem apart_far {B : List RunD} (h : levApart B = true) (hok : ∀ r ∈ B, runB r.1 r.2 = true) : ∀ (d i : Nat) {p r : RunD}, B[i]? = some p → B[i + 1 + d]? = some r → Op.bytesLess (highK p.1).toList (lowK r.1).toList = true
  | 0, i, p, r, hp, hr => apart_at h hp hr
  | d + 1, i, p, r, hp, hr => by
    obtain ⟨hl, _⟩ := List.getElem?_eq_some_iff.1 hr
    have hm : B[i + 1 + d]? = some (B[i + 1 + d]'(by omega)) := List.getElem?_eq_getElem _
    have h1 := apart_far h hok d i hp hm
    have h2 : aheadB (B[i + 1 + d]'(by omega)).1 r.1 = true := apart_at h hm hr
    have h3 := runB_parts (hok _ (List.mem_of_getElem? hm))
    unfold aheadB at h2
    rcases right_ends h3.2.2.1 h3.1 with e | e
    · rw [e] at h1; exact bless_trans _ _ _ h1 h2
    · exact bless_trans _ _ _ (bless_trans _ _ _ h1 e) h2
theorem apart_ov {B : List RunD} (h : levApart B = true) (hok : ∀ r ∈ B, runB r.1 r.2 = true) : (B.reverse.map (·.1)).Pairwise Ov := by
  rw [List.pairwise_map, List.pairwise_reverse, List.pairwise_iff_getElem]
  intro i j hi hj hij x hx y hy hk
  exfalso
  have h1 := apart_far h hok (j - i - 1) i (List.getElem?_eq_getElem hi) (by rw [show i + 1 + (j - i - 1) = j by omega]; exact List.getElem?_eq_getElem hj)
  have hi3 := (runB_parts (hok _ (List.getElem_mem hi))).2.2.1
  have hj3 := (runB_parts (hok _ (List.getElem_mem hj))).2.2.1
  have h2 : Op.bytesLess y.1.toList (lowK B[j].1).toList = true := by
    rcases right_high hi3 hy with e | e
    · rw [e]; exact h1
    · exact bless_trans _ _ _ e h1
  have h3 : Op.bytesLess y.1.toList x.1.toList = true := by
    rcases right_low hj3 hx with e | e
    · rw [← e]; exact h2
    · exact bless_trans _ _ _ h2 e
  rw [hk, bless_self] at h3
  cases h3
def listsL (M : List EntD) (A B C : List RunD) : List (List EntD) := M :: (A.reverse.map (·.1) ++ (B.reverse.map (·.1) ++ C.reverse.map (·.1)))
theorem ov_flat {X : List EntD} {B : List RunD} : Ov X (flatR B) ↔ ∀ b ∈ B.reverse.map (·.1), Ov X b := by
  unfold Ov flatR
  simp only [List.mem_flatMap, List.mem_map, List.mem_reverse]
  constructor
  · rintro h b ⟨r, hr, rfl⟩ x hx y hy
    exact h x hx y ⟨r, hr, hy⟩
  · rintro h x hx y ⟨r, hr, hy⟩
    exact h r.1 ⟨r, hr, rfl⟩ x hx y hy
theorem flat_ov {X : List EntD} {B : List RunD} : Ov (flatR B) X ↔ ∀ b ∈ B.reverse.map (·.1), Ov b X := by
  unfold Ov flatR
  simp only [List.mem_flatMap, List.mem_map, List.mem_reverse]
  constructor
  · rintro h b ⟨r, hr, rfl⟩ x hx y hy
    exact h x ⟨r, hr, hx⟩ y hy
  · rintro h x ⟨r, hr, hx⟩ y hy
    exact h r.1 ⟨r, hr, rfl⟩ x hx y hy
theorem parts_lists {M : List EntD} {A B C : List RunD} (hB : (B.reverse.map (·.1)).Pairwise Ov) (hC : (C.reverse.map (·.1)).Pairwise Ov) : (partsL M [A, B, C]).Pairwise Ov ↔ (listsL M A B C).Pairwise Ov := by
  unfold partsL listsL
  simp only [List.headD_cons, List.drop_succ_cons, List.drop_zero, List.map_cons, List.map_nil, List.cons_append, List.pairwise_cons, List.pairwise_append, List.mem_append, List.mem_cons, List.not_mem_nil, or_false, List.Pairwise.nil, and_true, false_implies, implies_true]
  constructor
  · rintro ⟨h1, h2, h3, h4⟩
    have hbc := h3 _ rfl
    refine ⟨?_, h2, ⟨hB, hC, ?_⟩, ?_⟩
    · rintro a (h | h | h)
      · exact h1 a (.inl h)
      · exact ov_flat.1 (h1 _ (.inr (.inl rfl))) a h
      · exact ov_flat.1 (h1 _ (.inr (.inr rfl))) a h
    · intro b hb c hc
      exact ov_flat.1 (flat_ov.1 hbc b hb) c hc
    · rintro a ha b (hb | hb)
      · exact ov_flat.1 (h4 a ha _ (.inl rfl)) b hb
      · exact ov_flat.1 (h4 a ha _ (.inr rfl)) b hb
  · rintro ⟨h1, h2, ⟨_, _, h3⟩, h4⟩
    refine ⟨?_, h2, ?_, ?_⟩
    · rintro a (h | h | h)
      · exact h1 a (.inl h)
      · rw [h]; exact ov_flat.2 (fun b hb => h1 b (.inr (.inl hb)))
      · rw [h]; exact ov_flat.2 (fun b hb => h1 b (.inr (.inr hb)))
    · intro c hc
      rw [hc]
      exact flat_ov.2 (fun b hb => ov_flat.2 (fun c hc => h3 b hb c hc))
    · rintro a ha b (hb | hb)
      · rw [hb]; exact ov_flat.2 (fun c hc => h4 a ha c (.inl hc))
      · rw [hb]; exact ov_flat.2 (fun c hc => h4 a ha c (.inr hc))
theorem runs_iff {B : List RunD} {most : Int} {ap : Bool} {q : Int} : runsB B most ap q = true ↔ (B.length : Int) ≤ most ∧ badB B = false ∧ (∀ r ∈ B, withinB r.1 q = true) ∧ (ap = true → levApart B = true) := by
  unfold runsB badB levApart
  simp only [Bool.and_eq_true, decide_eq_true_eq, List.all_eq_true, List.mem_range]
  constructor
  · rintro ⟨h1, h2⟩
    refine ⟨h1, ?_, ?_, ?_⟩
    · rw [List.any_eq_false]
      intro r hr
      obtain ⟨j, hj, rfl⟩ := List.getElem_of_mem hr
      have := h2 j hj
      rw [runAt_some (List.getElem?_eq_getElem hj), Bool.and_eq_true] at this
      simp [this.1]
    · intro r hr
      obtain ⟨j, hj, rfl⟩ := List.getElem_of_mem hr
      have := h2 j hj
      rw [runAt_some (List.getElem?_eq_getElem hj), Bool.and_eq_true, Bool.and_eq_true] at this
      exact this.2.1
    · intro hap j hj
      have := h2 j hj
      rw [runAt_some (List.getElem?_eq_getElem hj), Bool.and_eq_true, Bool.and_eq_true, hap] at this
      unfold apAt
      rw [List.getElem?_eq_getElem hj]
      simpa using this.2.2
  · rintro ⟨h1, h2, h3, h4⟩
    refine ⟨h1, fun j hj => ?_⟩
    rw [List.any_eq_false] at h2
    have e1 := h2 B[j] (List.getElem_mem hj)
    have e2 := h3 B[j] (List.getElem_mem hj)
    rw [runAt_some (List.getElem?_eq_getElem hj), e2]
    have e1' : runB B[j].1 B[j].2 = true := by simpa using e1
    rw [e1']
    cases ap with
    | false => rfl
    | true =>
      have := h4 rfl j hj
      unfold apAt at this
      rw [List.getElem?_eq_getElem hj] at this
      simpa using this
theorem bad_all' {B : List RunD} (h : badB B = false) : ∀ r ∈ B, runB r.1 r.2 = true := by
  unfold badB at h
  rw [List.any_eq_false] at h
  intro r hr
  simpa using h r hr
theorem tree_impl (q : Int) (M : List EntD) (A B C : List RunD) (S : List Int) :
    treeB q M [A, B, C] S = true ↔ 0 ≤ q ∧ q ≤ 100000 ∧ snapsB S q = true ∧ M.length ≤ 60 ∧ rightB M = true ∧ levelsI A B C = true ∧ newerB q (listsL M A B C).flatten = true := by
  have hI : levelsI A B C = true ↔ ((A.length : Int) ≤ 4 ∧ badB A = false) ∧ ((B.length : Int) ≤ 8 ∧ badB B = false ∧ levApart B = true) ∧ ((C.length : Int) ≤ 8 ∧ badB C = false ∧ levApart C = true) := by
    unfold levelsI ok0 ok1
    simp only [Bool.and_eq_true, decide_eq_true_eq, Bool.not_eq_true']
  have hT : treeB q M [A, B, C] S = true ↔ 0 ≤ q ∧ q ≤ 100000 ∧ M.length ≤ 60 ∧ rightB M = true ∧ withinB M q = true ∧ snapsB S q = true ∧ (runsB A 4 false q = true ∧ runsB B 8 true q = true ∧ runsB C 8 true q = true) ∧ agedB (partsL M [A, B, C]) = true := by
    unfold treeB levelsB
    simp only [Bool.and_eq_true, decide_eq_true_eq, List.length_cons, List.length_nil, Nat.reduceAdd, true_and]
  rw [hT, hI, runs_iff, runs_iff, runs_iff, newer_iff, aged_ov, List.pairwise_flatten]
  have hmem : ∀ {Z : List RunD} {l : List EntD}, l ∈ Z.reverse.map (·.1) → ∃ r ∈ Z, r.1 = l := by
    intro Z l hl
    rw [List.mem_map] at hl
    obtain ⟨r, hr, rfl⟩ := hl
    exact ⟨r, List.mem_reverse.1 hr, rfl⟩
  have hwi : ∀ {L : List EntD}, withinB L q = true ↔ ∀ e ∈ L, e.2.1 ≤ q := by
    intro L
    unfold withinB
    simp only [List.all_eq_true, decide_eq_true_eq]
  have hin : ∀ {l : List EntD}, l ∈ listsL M A B C ↔ l = M ∨ (∃ r ∈ A, r.1 = l) ∨ (∃ r ∈ B, r.1 = l) ∨ (∃ r ∈ C, r.1 = l) := by
    intro l
    unfold listsL
    simp only [List.mem_cons, List.mem_append, List.mem_map, List.mem_reverse]
  constructor
  · rintro ⟨h1, h2, h3, h4, h5, h6, ⟨⟨a1, a2, a3, _⟩, ⟨b1, b2, b3, b4⟩, ⟨c1, c2, c3, c4⟩⟩, h8⟩
    have hB := apart_ov (b4 rfl) (bad_all' b2)
    have hC := apart_ov (c4 rfl) (bad_all' c2)
    refine ⟨h1, h2, h6, h3, h4, ⟨⟨a1, a2⟩, ⟨b1, b2, b4 rfl⟩, ⟨c1, c2, c4 rfl⟩⟩, ⟨?_, (parts_lists hB hC).1 h8⟩, ?_⟩
    · intro l hl
      rcases hin.1 hl with rfl | ⟨r, hr, rfl⟩ | ⟨r, hr, rfl⟩ | ⟨r, hr, rfl⟩
      · exact right_over h4
      · exact right_over (runB_parts (bad_all' a2 r hr)).2.2.1
      · exact right_over (runB_parts (bad_all' b2 r hr)).2.2.1
      · exact right_over (runB_parts (bad_all' c2 r hr)).2.2.1
    · intro e he
      obtain ⟨l, hl, hx⟩ := List.mem_flatten.1 he
      clear he
      have he := hx
      rcases hin.1 hl with rfl | ⟨r, hr, rfl⟩ | ⟨r, hr, rfl⟩ | ⟨r, hr, rfl⟩
      · exact ⟨right_one h4 e he, hwi.1 h5 e he⟩
      · exact ⟨right_one (runB_parts (bad_all' a2 r hr)).2.2.1 e he, hwi.1 (a3 r hr) e he⟩
      · exact ⟨right_one (runB_parts (bad_all' b2 r hr)).2.2.1 e he, hwi.1 (b3 r hr) e he⟩
      · exact ⟨right_one (runB_parts (bad_all' c2 r hr)).2.2.1 e he, hwi.1 (c3 r hr) e he⟩
  · rintro ⟨h1, h2, h6, h3, h4, ⟨⟨a1, a2⟩, ⟨b1, b2, b4⟩, ⟨c1, c2, c4⟩⟩, ⟨_, h8⟩, h9⟩
    have hB := apart_ov b4 (bad_all' b2)
    have hC := apart_ov c4 (bad_all' c2)
    have hw : ∀ l ∈ listsL M A B C, withinB l q = true := fun l hl => hwi.2 (fun e he => (h9 e (List.mem_flatten.2 ⟨l, hl, he⟩)).2)
    exact ⟨h1, h2, h3, h4, hw M (hin.2 (.inl rfl)), h6, ⟨⟨a1, a2, fun r hr => hw _ (hin.2 (.inr (.inl ⟨r, hr, rfl⟩))), fun e => by cases e⟩, ⟨b1, b2, fun r hr => hw _ (hin.2 (.inr (.inr (.inl ⟨r, hr, rfl⟩)))), fun _ => b4⟩, ⟨c1, c2, fun r hr => hw _ (hin.2 (.inr (.inr (.inr ⟨r, hr, rfl⟩)))), fun _ => c4⟩⟩, (parts_lists hB hC).2 h8⟩
end Go.Proofs.YtapjkbpfhmbfaaaGreatDoor
