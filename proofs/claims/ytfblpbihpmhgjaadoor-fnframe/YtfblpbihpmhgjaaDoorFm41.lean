/-
  What is whole in a log, and in one that is cut, plain; no statement of the program stands here.
-/
import Derived.Test.YtfblpbihpmhgjaaDoorFm34
namespace Go.Proofs.YtfblpbihpmhgjaaDoor
open Go.RowKit

/-- How many bytes batches are. -/
def szP : List (List EntD) → Nat
  | [] => 0
  | L :: r => (frameT L).length + szP r
def txP : List (List EntD) → List UInt8
  | [] => []
  | L :: r => frameT L ++ txP r
theorem txP_len : ∀ P, (txP P).length = szP P
  | [] => rfl
  | L :: r => by rw [txP, szP, List.length_append, txP_len r]
theorem txP_append : ∀ (A B : List (List EntD)), txP (A ++ B) = txP A ++ txP B
  | [], B => rfl
  | L :: A, B => by rw [List.cons_append, txP, txP, txP_append A B, List.append_assoc]
theorem txP_next {P : List (List EntD)} {i : Nat} {L : List EntD} (h : P[i]? = some L) : txP (P.take (i + 1)) = txP (P.take i) ++ frameT L := by
  rw [List.take_add_one, h, Option.toList_some, txP_append, txP, txP, List.append_nil]
theorem szP_next {P : List (List EntD)} {i : Nat} {L : List EntD} (h : P[i]? = some L) : szP (P.take (i + 1)) = szP (P.take i) + (frameT L).length := by
  rw [← txP_len, txP_next h, List.length_append, txP_len]
theorem whole_done {l : List UInt8} {P : List (List EntD)} {e : Nat} (h : Whole l P e) : ∀ L ∈ P, doneB L = true := by
  induction h with
  | none _ => intro L hL; simp at hL
  | one hd _ ih =>
    intro L hL
    rcases List.mem_cons.1 hL with rfl | h1
    · exact hd
    · exact ih L h1
theorem whole_txt {l : List UInt8} {P : List (List EntD)} {e : Nat} (h : Whole l P e) : l.take e = txP P ∧ e = szP P := by
  induction h with
  | none _ => exact ⟨rfl, rfl⟩
  | @one L r Ls k hd hr ih =>
    refine ⟨?_, by rw [szP, ← ih.2]⟩
    rw [List.take_append, List.take_of_length_le (by omega), txP, show (frameT L).length + k - (frameT L).length = k by omega, ih.1]
theorem whole_cut {l : List UInt8} {P : List (List EntD)} {e : Nat} (h : Whole l P e) : ∀ (c k : Nat), c ≤ e → k ≤ P.length → szP (P.take k) ≤ c → (k = P.length ∨ ∃ L, P[k]? = some L ∧ c < szP (P.take k) + (frameT L).length) → Whole (l.take c) (P.take k) (szP (P.take k)) := by
  induction h with
  | none hn =>
    intro c k hc hk _ _
    have hc0 : c = 0 := by omega
    subst hc0
    simp at hk
    subst hk
    exact Whole.none (by simpa using no_frame_nil)
  | @one L r Ls e' hd hr ih =>
    intro c k hc hk hs hst
    cases k with
    | zero =>
      rcases hst with h0 | ⟨M, hM, hlt⟩
      · simp at h0
      · simp at hM
        subst hM
        simp [szP] at hlt
        refine Whole.none (fun N hN => ?_)
        have hl : (frameT L ++ r).take c = (frameT L).take c := by rw [List.take_append_of_le_length (by omega)]
        rw [hl] at hN
        have hN2 : FrAt (frameT L ++ r) N := by
          obtain ⟨h1, q, hq⟩ := hN
          refine ⟨h1, q ++ ((frameT L).drop c ++ r), ?_⟩
          rw [← List.append_assoc (frameT N), ← hq, ← List.append_assoc, List.take_append_drop]
        have hNL := frame_inj hN2 ⟨hd, r, rfl⟩
        subst hNL
        obtain ⟨_, q, hq⟩ := hN
        have h3 := congrArg List.length hq
        rw [List.length_take, List.length_append] at h3
        omega
    | succ k1 =>
      simp only [List.take_succ_cons, szP] at hs ⊢
      have h1 : (frameT L ++ r).take c = frameT L ++ r.take (c - (frameT L).length) := by
        rw [List.take_append, List.take_of_length_le (by omega)]
      rw [h1]
      refine Whole.one hd (ih _ k1 (by omega) (by simpa using hk) (by omega) ?_)
      rcases hst with h0 | ⟨M, hM, hlt⟩
      · exact Or.inl (by simpa using h0)
      · refine Or.inr ⟨M, by simpa using hM, ?_⟩
        simp only [List.take_succ_cons, szP] at hlt
        omega
theorem szP_le {P : List (List EntD)} {i : Nat} : szP (P.take i) ≤ szP P := by
  have h := txP_append (P.take i) (P.drop i)
  rw [List.take_append_drop] at h
  rw [← txP_len, ← txP_len, h, List.length_append]
  omega
theorem whole_one {M : List EntD} (h : doneB M = true) : Whole (frameT M) [M] (frameT M).length := by
  have := Whole.one (r := []) h (Whole.none no_frame_nil)
  simpa using this
theorem whole_nil : Whole [] [] 0 := Whole.none no_frame_nil

end Go.Proofs.YtfblpbihpmhgjaaDoor
