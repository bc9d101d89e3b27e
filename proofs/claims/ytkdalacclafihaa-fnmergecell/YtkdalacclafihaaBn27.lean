/-
  Plain: entries of unlike times that are merged stand in order, in whatever order their lists came. No statement of the program stands here.
  Plain: the run that entries make; no function of the program is walked here.
  What the document's EntryOk answers at every entry, by a walk of its Go text.
-/
import Derived.Test.YtkdalacclafihaaBn17
import Derived.Test.YtkdalacclafihaaBn26
import Derived.Test.YtkdalacclafihaaBn19
import Derived.Test.YtkdalacclafihaaBn11
import Derived.Test.YtkdalacclafihaaBn24
import Derived.Test.YtkdalacclafihaaBn02
namespace Go.Proofs.Ytkdalacclafihaa

theorem less_tot {x y : EntD} (h : lessE y x = false) (hne : x.2.1 ≠ y.2.1) : lessE x y = true := by
  have h1 := lessB_one x.1 y.1 x.2.1 y.2.1
  have h2 : decide (¬ x.2.1 = y.2.1) = true := decide_eq_true hne
  rw [h2, Bool.or_true] at h1
  unfold lessE at h ⊢
  rw [h, Bool.or_false] at h1
  exact h1
theorem weak_strict : ∀ {L : List EntD}, Weak L → UnT L → Strict L
  | [], _, _ => List.Pairwise.nil
  | x :: L, h, u => by
    obtain ⟨h1, h2⟩ := List.pairwise_cons.1 h
    obtain ⟨u1, u2⟩ := List.pairwise_cons.1 u
    exact List.pairwise_cons.2 ⟨fun y hy => less_tot (h1 y hy) (u1 y hy), weak_strict h2 u2⟩
theorem sort_strict {F : List EntD} (u : UnT F) : Strict (sortE F) := weak_strict (sort_both F).1 (u.perm (sort_both F).2.symm)
theorem sort_any {F G : List EntD} (u : UnT F) (p : F.Perm G) : sortE F = sortE G :=
  strict_weak (sort_strict u) (sort_both G).1 ((sort_both F).2.trans (p.trans (sort_both G).2.symm))
theorem sort_again {F : List EntD} (u : UnT F) : sortE (sortE F) = sortE F := (sort_any u (sort_both F).2.symm).symm
theorem strict_next {L : List EntD} (h : Strict L) {i : Nat} {x y : EntD} (hx : L[i]? = some x) (hy : L[i + 1]? = some y) : lessE x y = true := by
  obtain ⟨h1, rfl⟩ := List.getElem?_eq_some_iff.1 hx
  obtain ⟨h2, rfl⟩ := List.getElem?_eq_some_iff.1 hy
  exact (List.pairwise_iff_getElem.1 h) i (i + 1) h1 h2 (by omega)
instance mgEntDec : DecidableEq EntD := instDecidableEqProd
/-- An entry is among the first k. -/
def hasB (F : List EntD) (e : EntD) (k : Nat) : Bool := (F.take k).any (fun x => decide (x = e))
theorem hasB_zero (F : List EntD) (e : EntD) : hasB F e 0 = false := by simp [hasB]
theorem hasB_succ {F : List EntD} {e x : EntD} {k : Nat} (h : F[k]? = some x) : hasB F e (k + 1) = (hasB F e k || decide (x = e)) := by
  unfold hasB
  rw [List.take_add_one, h, List.any_append]
  simp
theorem hasB_all {F : List EntD} {e : EntD} {n : Nat} (h : e ∈ F) (hn : F.length = n) : hasB F e n = true := by
  unfold hasB
  rw [List.take_of_length_le (by omega), List.any_eq_true]
  exact ⟨e, h, decide_eq_true rfl⟩
theorem rev_flat (P : List (List EntD)) : P.reverse.flatten.Perm P.flatten := (List.reverse_perm P).flatten
theorem drop_len {P : List (List EntD)} {m : Nat} {L : List EntD} (h : P[m]? = some L) : (P.drop m).flatten.length = L.length + (P.drop (m + 1)).flatten.length := by
  obtain ⟨hl, rfl⟩ := List.getElem?_eq_some_iff.1 h
  rw [List.drop_eq_getElem_cons hl, List.flatten_cons, List.length_append]
theorem drop_rev {P : List (List EntD)} {m : Nat} {L : List EntD} (h : P[m]? = some L) : (P.drop m).reverse = (P.drop (m + 1)).reverse ++ [L] := by
  obtain ⟨hl, rfl⟩ := List.getElem?_eq_some_iff.1 h
  rw [List.drop_eq_getElem_cons hl, List.reverse_cons]
theorem drop_le (P : List (List EntD)) (m : Nat) : (P.drop m).flatten.length ≤ P.flatten.length := by
  have h : P.flatten = (P.take m).flatten ++ (P.drop m).flatten := by rw [← List.flatten_append, List.take_append_drop]
  rw [h, List.length_append]
  omega
end Go.Proofs.Ytkdalacclafihaa

namespace Go.Proofs.Ytkdalacclafihaa
open Go.RowKit

/-- Whether entries make a run. -/
def ofB (L : List EntD) : Bool := decide (1 ≤ L.length) && (decide (L.length ≤ 150) && rightB (sortE L))
def ofL (L : List EntD) : List EntD := if ofB L = true then sortE L else []
def ofM (L : List EntD) : Int := if ofB L = true then ((maskL (sortE L) : Nat) : Int) else 0
/-- A run in memory of its own, and whether it is one. -/
def OfR (F : List EntD) (m : Int) (ok : Bool) (w : World) (e : Ending) (w' : World) : Prop :=
  ∃ a n c, e = .returned (.tuple #[.agg #[.slice a n c, .int .i64 m], .bool ok]) ∧ OwnO w' w.heap.size a n c F ∧ Below w.heap.size w w'
theorem of_no {L : List EntD} (h : ofB L = false) {w w' : World} (hb : Below w.heap.size w w') : OfR (ofL L) (ofM L) (ofB L) w (.returned (.tuple #[.agg #[.slice none 0 0, .int .i64 0], .bool false])) w' := by
  unfold ofL ofM
  rw [h]
  exact ⟨none, 0, 0, rfl, OwnO.none _ _, hb⟩
theorem of_yes {L : List EntD} (h : ofB L = true) {w w' : World} {g n c : Nat} (ho : OwnE w' w.heap.size g n c (sortE L)) (hb : Below w.heap.size w w') : OfR (ofL L) (ofM L) (ofB L) w (.returned (.tuple #[.agg #[.slice (some ⟨g, 0, none⟩) n c, .int .i64 ((maskL (sortE L) : Nat) : Int)], .bool true])) w' := by
  unfold ofL ofM
  rw [h]
  exact ⟨_, n, c, rfl, OwnO.some ho, hb⟩
theorem of_len (L : List EntD) : (ofL L).length ≤ L.length := by
  unfold ofL
  split
  · rw [sortE_len]; exact Nat.le_refl _
  · exact Nat.zero_le _
end Go.Proofs.Ytkdalacclafihaa

namespace Go.Proofs.Ytkdalacclafihaa
open Go.RowKit

set_option maxHeartbeats 400000 in
theorem specEnt (k t : ByteArray) (q d n : Int) (w : World) (hs : k.size ≤ maxLen) (ht : t.size ≤ maxLen) :
    Calls Try.prog 90 #[.agg #[.string k, .int .i64 q, .int .i64 d, .string t, .int .i64 n]] w fun e w' => e = .returned (.bool (entB k q d t n)) ∧ Below w.heap.size w w' := by
  have ht' := ht
  unfold maxLen at ht'
  cases hk : keyB k with
  | false =>
    go_enter Try.func90, Try.ntmps90
    go_wp2_with (first | (go_at_call 101; refine (specKey _ _ hs).mono ?_; rintro e w' ⟨rfl, rfl⟩) | go_in)
    go_ret
    exact ⟨ret_bool (entB_key hk).symm, (Below.refl _ _).alloc (Nat.le_refl _) _⟩
  | true =>
    by_cases h1 : q < 1
    · go_enter Try.func90, Try.ntmps90
      go_wp2_with (first | (go_at_call 101; refine (specKey _ _ hs).mono ?_; rintro e w' ⟨rfl, rfl⟩) | go_in)
      go_ret
      exact ⟨ret_bool (entB_q1 h1).symm, (Below.refl _ _).alloc (Nat.le_refl _) _⟩
    by_cases h2 : 100000 < q
    · go_enter Try.func90, Try.ntmps90
      go_wp2_with (first | (go_at_call 101; refine (specKey _ _ hs).mono ?_; rintro e w' ⟨rfl, rfl⟩) | go_in)
      go_ret
      exact ⟨ret_bool (entB_q2 h2).symm, (Below.refl _ _).alloc (Nat.le_refl _) _⟩
    by_cases h3 : n < -1000000
    · go_enter Try.func90, Try.ntmps90
      go_wp2_with (first | (go_at_call 101; refine (specKey _ _ hs).mono ?_; rintro e w' ⟨rfl, rfl⟩) | go_in)
      go_ret
      exact ⟨ret_bool (entB_n1 h3).symm, (Below.refl _ _).alloc (Nat.le_refl _) _⟩
    by_cases h4 : 1000000 < n
    · go_enter Try.func90, Try.ntmps90
      go_wp2_with (first | (go_at_call 101; refine (specKey _ _ hs).mono ?_; rintro e w' ⟨rfl, rfl⟩) | go_in)
      go_ret
      exact ⟨ret_bool (entB_n2 h4).symm, (Below.refl _ _).alloc (Nat.le_refl _) _⟩
    by_cases h5 : 60 < t.size
    · go_enter Try.func90, Try.ntmps90
      go_wp2_with (first | (go_at_call 101; refine (specKey _ _ hs).mono ?_; rintro e w' ⟨rfl, rfl⟩) | go_in)
      go_ret
      exact ⟨ret_bool (entB_t h5).symm, (Below.refl _ _).alloc (Nat.le_refl _) _⟩
    by_cases d1 : d = 1
    · subst d1
      go_enter Try.func90, Try.ntmps90
      go_wp2_with (first | (go_at_call 101; refine (specKey _ _ hs).mono ?_; rintro e w' ⟨rfl, rfl⟩) | go_in)
      go_ret
      refine ⟨ret_bool ?_, (Below.refl _ _).alloc (Nat.le_refl _) _⟩
      rw [entB_rest hk (by omega) (by omega) (by omega) (by omega) (by omega)]
      exact kindB_1.symm
    by_cases d2 : d = 2
    · subst d2
      by_cases t0 : t = ByteArray.empty
      · subst t0
        by_cases n0 : n = 0
        · subst n0
          go_enter Try.func90, Try.ntmps90
          go_wp2_with (first | (go_at_call 101; refine (specKey _ _ hs).mono ?_; rintro e w' ⟨rfl, rfl⟩) | go_in)
          go_ret
          refine ⟨ret_bool ?_, (Below.refl _ _).alloc (Nat.le_refl _) _⟩
          rw [entB_rest hk (by omega) (by omega) (by omega) (by omega) (by omega)]
          rw [kindB_2]; rfl
        · have n1 : (n == 0) = false := by simpa using n0
          go_enter Try.func90, Try.ntmps90
          go_wp2_with (first | (go_at_call 101; refine (specKey _ _ hs).mono ?_; rintro e w' ⟨rfl, rfl⟩) | go_in)
          go_ret
          refine ⟨ret_bool ?_, (Below.refl _ _).alloc (Nat.le_refl _) _⟩
          rw [entB_rest hk (by omega) (by omega) (by omega) (by omega) (by omega)]
          rw [kindB_2]; simp [n0]
      · have t1 := size_pos_of_ne t0
        have t2 := toList_ne t0
        go_enter Try.func90, Try.ntmps90
        go_wp2_with (first | (go_at_call 101; refine (specKey _ _ hs).mono ?_; rintro e w' ⟨rfl, rfl⟩) | go_in)
        go_ret
        refine ⟨ret_bool ?_, (Below.refl _ _).alloc (Nat.le_refl _) _⟩
        rw [entB_rest hk (by omega) (by omega) (by omega) (by omega) (by omega)]
        rw [kindB_2]; simp [t1]
    by_cases d3 : d = 3
    · subst d3
      by_cases t0 : t = ByteArray.empty
      · subst t0
        go_enter Try.func90, Try.ntmps90
        go_wp2_with (first | (go_at_call 101; refine (specKey _ _ hs).mono ?_; rintro e w' ⟨rfl, rfl⟩) | go_in)
        go_ret
        refine ⟨ret_bool ?_, (Below.refl _ _).alloc (Nat.le_refl _) _⟩
        rw [entB_rest hk (by omega) (by omega) (by omega) (by omega) (by omega)]
        rw [kindB_3]; rfl
      · have t1 := size_pos_of_ne t0
        have t2 := toList_ne t0
        go_enter Try.func90, Try.ntmps90
        go_wp2_with (first | (go_at_call 101; refine (specKey _ _ hs).mono ?_; rintro e w' ⟨rfl, rfl⟩) | go_in)
        go_ret
        refine ⟨ret_bool ?_, (Below.refl _ _).alloc (Nat.le_refl _) _⟩
        rw [entB_rest hk (by omega) (by omega) (by omega) (by omega) (by omega)]
        rw [kindB_3]; simp [t1, t2]
    have e1 : (d == 1) = false := by simpa using d1
    have e2 : (d == 2) = false := by simpa using d2
    have e3 : (d == 3) = false := by simpa using d3
    go_enter Try.func90, Try.ntmps90
    go_wp2_with (first | (go_at_call 101; refine (specKey _ _ hs).mono ?_; rintro e w' ⟨rfl, rfl⟩) | go_in)
    go_ret
    refine ⟨ret_bool ?_, (Below.refl _ _).alloc (Nat.le_refl _) _⟩
    rw [entB_rest hk (by omega) (by omega) (by omega) (by omega) (by omega)]
    exact (kindB_0 d1 d2 d3).symm

end Go.Proofs.Ytkdalacclafihaa
