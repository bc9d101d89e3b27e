/-
  Entries that are given their times: plain facts.
-/
import Derived.Test.YtlmgojlffgkciaaGreatGa00
import Derived.Test.YtlmgojlffgkciaaGreatGa19
import Derived.Test.YtlmgojlffgkciaaGreatGa03
namespace Go.Proofs.YtlmgojlffgkciaaGreat
open Go.RowKit
def stE (q : Int) (i : Nat) (e : EntD) : EntD := (e.1, q + 1 + i, e.2.2)
def stL (q : Int) (K : List EntD) : List EntD := K.mapIdx (stE q)
theorem stL_take {q : Int} {K : List EntD} {i : Nat} {e : EntD} (h : K[i]? = some e) : stL q (K.take (i + 1)) = stL q (K.take i) ++ [stE q i e] := by
  have hi := (List.getElem?_eq_some_iff.1 h).1
  unfold stL
  rw [List.take_add_one, h]
  simp only [Option.toList_some]
  rw [List.mapIdx_concat, List.length_take, Nat.min_eq_left (by omega)]
theorem stL_len (q : Int) (K : List EntD) : (stL q K).length = K.length := by simp [stL]
def stAt (q : Int) (K : List EntD) (i : Nat) : Bool := match K[i]? with
  | none => true
  | some e => decide (e.2.1 = 0) && entB e.1 (q + 1 + i) e.2.2.1 e.2.2.2.1 e.2.2.2.2
def stampB (q : Int) (K : List EntD) : Bool := (List.range K.length).all (stAt q K)
theorem stamp_yes {q : Int} {K : List EntD} {n : Nat} (hl : K.length = n) (h : ∀ j, j < n → stAt q K j = true) : stampB q K = true := by
  unfold stampB
  rw [List.all_eq_true]
  intro j hj
  exact h j (by rw [← hl]; exact List.mem_range.1 hj)
theorem stamp_no {q : Int} {K : List EntD} {i : Nat} (hi : i < K.length) (h : stAt q K i = false) : stampB q K = false := by
  unfold stampB
  rw [List.all_eq_false]
  exact ⟨i, List.mem_range.2 hi, by rw [h]; simp⟩
theorem st_no0 {q : Int} {K : List EntD} {i : Nat} {e : EntD} (h : K[i]? = some e) (h0 : ¬ e.2.1 = 0) : stAt q K i = false := by
  unfold stAt
  rw [h]
  simp [h0]
theorem st_at {q : Int} {K : List EntD} {i : Nat} {e : EntD} (h : K[i]? = some e) (h0 : e.2.1 = 0) : stAt q K i = entB e.1 (q + 1 + i) e.2.2.1 e.2.2.2.1 e.2.2.2.2 := by
  unfold stAt
  rw [h]
  simp [h0]
theorem stamp_ent {q : Int} {K : List EntD} (h : stampB q K = true) {i : Nat} {e : EntD} (he : (stL q K)[i]? = some e) : entB e.1 e.2.1 e.2.2.1 e.2.2.2.1 e.2.2.2.2 = true := by
  have hi := (List.getElem?_eq_some_iff.1 he).1
  rw [stL_len] at hi
  unfold stampB at h
  rw [List.all_eq_true] at h
  have h1 := h i (List.mem_range.2 hi)
  have hk := List.getElem?_eq_getElem hi
  unfold stAt at h1
  rw [hk] at h1
  simp only [Bool.and_eq_true] at h1
  unfold stL at he
  rw [List.getElem?_mapIdx, hk] at he
  simp only [Option.map_some, Option.some.injEq] at he
  subst he
  exact h1.2
def writeO (q : Int) (M K : List EntD) : Bool := decide (1 ≤ K.length) && (decide (K.length ≤ 12) && (decide (M.length + K.length ≤ 60) && stampB q K))
theorem ownO_row {w : World} {base n : Nat} {v : Value} {L : List EntD} (h : w.ownsRow base 78 5 v n (flatE L)) (hl : L.length = n) (hw : ∀ l ∈ L, EntW l) : ∃ a c, v = .slice a n c ∧ OwnO w base a n c L := by
  rcases h.2 with ⟨hv, h0⟩ | ⟨g, cap, cur, hv, _⟩
  · subst hv h0
    obtain rfl := List.length_eq_zero_iff.1 hl
    exact ⟨none, 0, rfl, OwnO.none _ _⟩
  · subst hv
    exact ⟨_, cap, rfl, OwnO.some ⟨h, hl, hw⟩⟩
theorem cell_five_new (w : World) (s : ByteArray) (Q d : Int) (t : ByteArray) (m : Int) : ∀ j u, [Value.string s, .int .i64 Q, .int .i64 d, .string t, .int .i64 m][j]? = some u → (w.alloc (.cells #[.string s, .int .i64 Q, .int .i64 d, .string t, .int .i64 m] 78)).cell? ((⟨w.heap.size, 0, none⟩ : Addr).add j) = some u := by
  intro j u hu
  rw [Go.WideShapes.add_plain]
  match j, hu with
  | 0, hu => simp at hu; subst hu; simp
  | 1, hu => simp at hu; subst hu; simp
  | 2, hu => simp at hu; subst hu; simp
  | 3, hu => simp at hu; subst hu; simp
  | 4, hu => simp at hu; subst hu; simp
theorem row_stays {w w' : World} {base e size n : Nat} {v : Value} {xs : List Value} (h : w.ownsRow base e size v n xs) (hb : Below w.heap.size w w') : w'.ownsRow base e size v n xs := h.kept (row := none) ⟨hb.os, hb.tape, hb.output, hb.size, fun k hk _ => hb.block k hk⟩ (by
  cases v.ownBlock with
  | none => exact .inl rfl
  | some x => exact .inr (by simp))
def StampS (q : Int) (K : List EntD) (n : Nat) (w : World) (e : Ending) (w' : World) : Prop := ∃ v ok, e = .returned (.tuple #[v, .bool ok]) ∧ (stampB q K = true → (∃ g c', v = .slice (some ⟨g, 0, none⟩) n c' ∧ OwnE w' w.heap.size g n c' (stL q K)) ∧ ok = (decide (1 ≤ n) && decide (n ≤ 12))) ∧ (stampB q K = false → ok = false ∧ ∃ a m c', v = .slice a m c') ∧ Below w.heap.size w w'
def StampI (q : Int) (K : List EntD) (n : Nat) (w : World) (e : Ending) (w' : World) : Prop := ∃ v ok, e = .returned (.tuple #[v, .bool ok]) ∧ (stampB q K = true → (∃ a c', v = .slice a n c' ∧ OwnO w' w.heap.size a n c' (stL q K)) ∧ ok = decide (0 < n)) ∧ (stampB q K = false → ok = false ∧ v = .slice none 0 0) ∧ Below w.heap.size w w'
end Go.Proofs.YtlmgojlffgkciaaGreat
